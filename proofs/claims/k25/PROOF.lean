import PyProof.Rows.All
import Wide.All
import OpenK.AllK
import Wide.FinOn
import KE.KIsAll
import KE.KTryMore
import HandS.ForMost
import HandS.ForExc
import HandS.ExcIs
import HandS.IsInst
import HandS.Small
import HandS.Codes
import HandS.TupAny
import HandS.AnyAll
import HandS.HotCalls
import KE.LtData
import HandS.FStr
import HandS.EndTab
import KE.KDictDisplayH
import KE.GoesMore
import KE.KeyNested
import HandS.Walk
import HandS.SetKeys
import HandS.DictComp
import HandS.Deep
import HandS.SortKw
import HandS.Conv
import KE.SortKeyHeap
import KE.SortData
import KE.KDictSum
import KE.DataCmp
import HandS.Comp
import HandS.DictTup
import HandS.TupLen
import HandS.Iter
import HandS.GenList
import PyProof.WalksS
import KE.DataAny
import PyProof.GenCompD
import HandS.Lambda
import KE.DataMinMax
import HandS.More
import HandS.EndOwn
import PySem.Challenge.RW_maieutic_k25_whole_suite_tells_near_ones
set_option Elab.async false
set_option linter.all false
set_option maxRecDepth 100000
set_option maxHeartbeats 4000000
namespace Mz
open PySem PySem.Spec PyProof.Rows L2
/-! ### calls whose errors are wished for at the slots as they stand -/
section
variable {X : Cx} {CX : CXT} {k : Nat} {f C : Addr} {fd : FuncData} {ps : List Str} {sp : Sp} {E : L2.St → XK} {x m : Str} {p pos apos : Pos} {e o : Expr} {es : List Expr} {ta : TE} {t : TA}
def tMethS (C : Addr) (m : Str) (sp : Sp) (E : L2.St → XK) (ta : TE) (t : TA) : TE := fun σ H Q => ta σ H fun x H1 => ∃ a dx fs, x = .ref a ∧ H1 a = some (.ins C dx fs) ∧ fs.lookup m = none ∧ t σ H1 fun vs H2 => sp (x :: vs) H2 Q (E σ)
theorem pe_methS {pl : Sem Bool} (he : PE X o ta) (c : Cls X.K C) (hm : Meth X.K C m f)
    (F : FnOk X.prog X.w X.K X.mg X.base CX k f fd ps sp) (hr : Room k X.A) (hb : Binds X.K fd ps []) (hx : ∀ σ, PassesAt CX X σ (E σ)) (ha : PA X (e :: es) t)
    (hst : starEach (e :: es) X.env = (false, eval e X.env) :: starEach es X.env := by rfl) (hpl : (backTo pos (starEach es X.env)).any (·.1) = false := by rfl)
    (ht : eval (.Call (.Attribute o m apos) (e :: es) [] pos) X.env = (do
      let ov ← eval o X.env
      standAt apos.atName
      let (f, first) ← holding [ov] (getMethod ov m pl)
      callWith pos f first (backTo pos (starEach (e :: es) X.env)) (backToKw pos (keywordEach [] X.env))) := by rfl) :
    PE X (.Call (.Attribute o m apos) (e :: es) [] pos) (tMethS C m sp E ta t) := by
  refine ⟨fun pins s σ H Q I h => ?_⟩
  refine PySem.W.methodCall_KW (pl := pl) (thn (he.run pins s σ H _ I h) fun u s1 ⟨x, H1, I1, rx, a, dx, fs, ex, ea, l, q⟩ => ?_) ht
  subst ex
  obtain rfl : u = Value.ref a := rx
  refine getmeth_ok I1 ea c hm l ?_
  refine PySem.W.callWith_K (first := [.ref a]) (h₀ := X.base) I.ok.mod.kin hm.kp (thn (ha.run pos pins s1 σ H1 _ I1 q) fun us s2 ⟨vs, H2, I2, r, q2⟩ => ⟨I2.kIn, ?_⟩) hst hpl
  exact run_fnS (us := .ref a :: us) (vs := .ref a :: vs) F hr hb (hx σ) I2 (.cons rfl r) q2
theorem pe_methS0 {pl : Sem Bool} (he : PE X o ta) (c : Cls X.K C) (hm : Meth X.K C m f)
    (F : FnOk X.prog X.w X.K X.mg X.base CX k f fd ps sp) (hr : Room k X.A) (hb : Binds X.K fd ps []) (hx : ∀ σ, PassesAt CX X σ (E σ))
    (ht : eval (.Call (.Attribute o m apos) [] [] pos) X.env = (do
      let ov ← eval o X.env
      standAt apos.atName
      let (f, first) ← holding [ov] (getMethod ov m pl)
      callWith pos f first (backTo pos (starEach [] X.env)) (backToKw pos (keywordEach [] X.env))) := by rfl) :
    PE X (.Call (.Attribute o m apos) [] [] pos) (tMethS C m sp E ta tNil) := by
  refine ⟨fun pins s σ H Q I h => ?_⟩
  refine PySem.W.methodCall_KW (pl := pl) (thn (he.run pins s σ H _ I h) fun u s1 ⟨x, H1, I1, rx, a, dx, fs, ex, ea, l, q⟩ => ?_) ht
  subst ex
  obtain rfl : u = Value.ref a := rx
  refine getmeth_ok I1 ea c hm l ?_
  exact PySem.W.callWith_K0 (first := [.ref a]) I1.kIn hm.kp
    (run_fnS (us := [.ref a]) (vs := [.ref a]) F hr hb (hx σ) I1 (.cons rfl .nil) q)
def tMakeS (C : Addr) (sp : Sp) (E : L2.St → XK) (t : TA) : TE := fun σ H Q =>
  t σ H fun vs H1 => ∀ x dx, H1 x = none → H1 dx = none → dx ≠ x → sp (.ref x :: vs) (upd (upd H1 dx (.own x)) x (.ins C dx [])) (fun v H2 => v = .non ∧ Q (.ref x) H2) (E σ)
theorem run_makeS {pins : List (Addr × Obj)} {σ : L2.St} {H : Hp} {s : Shared} {Q : VK} {us : List Value} {vs : List V} (M : Mk X.K C f)
    (F : FnOk X.prog X.w X.K X.mg X.base CX k f fd ps sp) (hr : Room (k + 1) X.A) (hb : Binds X.K fd ps [])
    (hx : PassesAt CX X σ (E σ)) (I : Inv X pins σ H s) (r : Vals vs us)
    (h : ∀ x dx, H x = none → H dx = none → dx ≠ x → sp (.ref x :: vs) (upd (upd H dx (.own x)) x (.ins C dx [])) (fun v H2 => v = .non ∧ Q (.ref x) H2) (E σ)) :
    wpAny (model X.prog X.w) X.A (call (.ref C) us) (EP X pins σ Q) X.xe s := by
  obtain ⟨dx, hdx⟩ : ∃ n, n = s.heap.objs.size := ⟨_, rfl⟩
  have w := h (s.heap.objs.size + 1) s.heap.objs.size (I.hok.fresh (Nat.le_succ _)) (I.hok.fresh (Nat.le_refl _)) (Nat.ne_of_lt (Nat.lt_succ_self _))
  have J := Inv.made (C := C) I
  have rr : Vals (V.ref (s.heap.objs.size + 1) :: vs) (Value.ref (s.heap.objs.size + 1) :: us) := .cons rfl r
  have len : ((Value.ref (s.heap.objs.size + 1) :: us) ++ []).length = ps.length := by
    have z := rr.length
    rw [F.len _ _ _ _ w] at z
    rw [List.append_nil]
    exact z.symm
  have bb := hb _ (Value.ref (s.heap.objs.size + 1) :: us) J.kIn len
  rw [List.append_nil] at bb
  refine wpAny_call (make_map (f := f) I.kIn M.makes M.init (beq_iff_eq.mp M.fn) (codeAny_mono (F.run _ X.stack _ _ ⟨Value.ref (s.heap.objs.size + 1) :: us, []⟩
    (Value.ref (s.heap.objs.size + 1) :: us) _ _ (E σ) (hr.make C us []) (J.env0.make C us []) bb rr w) fun g s' z => ?_))
  match g, z with
  | .error e, z => exact hx pins _ _ e s' J z
  | .ok (.ret u), z =>
    obtain ⟨v, H', I3, rv, ev, q3⟩ := J.after z
    subst ev
    exact ⟨rv, ⟨V.ref (s.heap.objs.size + 1), H', I3, rfl, q3⟩⟩
  | .ok .next, z => exact z.elim
  | .ok .brk, z => exact z.elim
  | .ok .cont, z => exact z.elim
theorem pe_makeS (M : Mk X.K C f) (F : FnOk X.prog X.w X.K X.mg X.base CX k f fd ps sp) (hr : Room (k + 1) X.A) (hg : Gl X x) (hm : X.mg x = some (.ref C)) (hb : Binds X.K fd ps [])
    (hx : ∀ σ, PassesAt CX X σ (E σ)) (ha : PA X (e :: es) t) (hdb : (x == ("__debug__" : Str)) = false := by decide)
    (he : starEach (e :: es) X.env = (false, eval e X.env) :: starEach es X.env := by rfl) (hpl : (backTo pos (starEach es X.env)).any (·.1) = false := by rfl) :
    PE X (.Call (.Name x p) (e :: es) [] pos) (tMakeS C sp E t) :=
  ⟨fun pins s σ H Q I h => wpAny_Call_Name_kw (ld_glob I hg hm
    (PySem.W.callWith_K (h₀ := X.base) I.ok.mod.kin M.kp (thn (ha.run pos pins s σ H _ I h) fun us s1 ⟨vs, H1, I1, r, q⟩ => ⟨I1.kIn, run_makeS M F hr hb (hx σ) I1 r q⟩) he hpl) hdb)⟩
end
/-! ### isinstance of the error that a suite holds -/
def rIsX (K : PySem.W.Frag) (a : Addr) (cls : Value) (d : Option Addr) : List V → Hp → VK → Prop := fun xs H Q =>
  ∃ (D C : Addr) (b : Bool), cls = .ref D ∧ d = none ∧ ExcC K D ∧ xs = [.ref a, .ref C] ∧ PySem.W.kitOne K (.ref D) (.ref C) = some b ∧ Q (.bl b) H
theorem call_isX {X : Cx} {a : Addr} {cls : Value} {d : Option Addr} {oe : Obj} {pn : List (Addr × Obj)} (hz : Zc cls d oe) (hf : ∃ vs, oe.data = .fields vs) :
    CallR (X.suite a ((a, oe) :: pn)) (.builtin "isinstance") (rIsX X.K a cls d) := by
  rintro pins s σ H xs us Q I r ⟨D, C, b, rfl, rfl, ec, rfl, hk, q⟩
  exact call_isE ec hz hf pins s σ H _ us Q I r ⟨.ref C, .ref C, b, rfl, fun u z => z, hk, q⟩
def rIsXT (K : PySem.W.Frag) (a : Addr) (cls : Value) (d : Option Addr) : List V → Hp → VK → Prop := fun xs H Q =>
  ∃ (D tp : Addr) (cs : List V) (us : List Value) (b : Bool), cls = .ref D ∧ d = none ∧ ExcC K D ∧ xs = [.ref a, .ref tp] ∧ H tp = some (.tup cs) ∧ Paired ClsV cs us ∧ PySem.W.kitAny K (.ref D) us = some b ∧ Q (.bl b) H
theorem call_isXT {X : Cx} {a : Addr} {cls : Value} {d : Option Addr} {oe : Obj} {pn : List (Addr × Obj)} (hz : Zc cls d oe) (hf : ∃ vs, oe.data = .fields vs) :
    CallR (X.suite a ((a, oe) :: pn)) (.builtin "isinstance") (rIsXT X.K a cls d) := by
  rintro pins s σ H xs vs Q I r ⟨D, tp, cs, us, b, rfl, rfl, ec, rfl, hT, k, hk, q⟩
  obtain ⟨u1, u2, rfl, r1, r2⟩ := vals2 r
  cases (show u2 = Value.ref tp from r2)
  cases (show u1 = Value.ref a from r1)
  obtain ⟨hget, _⟩ := I.pin (a, oe) (List.mem_append.mpr (.inl List.mem_cons_self))
  obtain ⟨fv, hv⟩ := hf
  have J : PySem.W.InstAt s.heap a oe D none := by
    obtain ⟨oc, od, oda, osl⟩ := oe
    obtain ⟨h1, h2⟩ := hz
    dsimp only at h1 h2 hv
    subst h1 h2 hv
    exact ⟨hget, rfl, rfl, trivial⟩
  obtain ⟨_, its, rv, ob, h1, h2, n, h3⟩ := (show ObjOk X.prog X.w H s.heap tp (.tup cs) from I.hok tp _ hT)
  have e3 := ClsV.all k rv
  subst e3
  obtain ⟨oc, od, dt, sl⟩ := ob
  simp only at h2 h3
  subst h2 h3
  exact PySem.W.kia_tup (PySem.W.handS_kitx_exc ec.hg ec.hk ec.hs ec.hd ec.ha ec.hn ec.ht ec.hm) I.kIn J h1 hk (fun z => nomatch z)
    fun tk => ⟨.bl b, H, I.kept (t' := tk) fun _ _ z => z, rfl, q⟩
/-- one own error class against another -/
theorem kit_own {K : PySem.W.Frag} {D C : Addr} {b : Bool} (hD : PySem.W.subIn K (.ref D) (.ref D) = some true) (ec : ExcC K C) (ht : PySem.W.typeIn K (.ref C) = some (.type "type"))
    (h : PySem.W.subIn K (.ref D) (.ref C) = some b) : PySem.W.kitOne K (.ref D) (.ref C) = some b := by
  unfold PySem.W.kitOne
  by_cases e : D = C
  · subst e
    rw [hD] at h
    cases h
    rw [if_pos (by simp)]
  · rw [if_neg (by simpa using fun z => e (Value.ref.inj z))]
    have e1 := PySem.W.exm_ref (cls := .ref D) (C := C) ec.hs ec.hd ht h
    unfold PySem.W.exmOne at e1
    split at e1
    · exact e1
    · cases e1
theorem exm_own {K : PySem.W.Frag} {D C : Addr} {b : Bool} (ec : ExcC K C) (ht : PySem.W.typeIn K (.ref C) = some (.type "type")) (h : PySem.W.subIn K (.ref D) (.ref C) = some b) :
    PySem.W.exmOne K (.ref D) (.ref C) = some b := PySem.W.exm_ref ec.hs ec.hd ht h
end Mz

set_option Elab.async false
set_option linter.all false
set_option maxRecDepth 100000
set_option maxHeartbeats 4000000
/-! all(..) of a generator expression over a list or a tuple, by what its element gives for each item -/
namespace Mz
open PySem PySem.Spec PyProof.Rows L2 GxR
section
variable {X : Cx} {pins : List (Addr × Obj)} {σ : L2.St} {H : Hp} {s : Shared}
/-- a generator that will give the truths tr, n of them -/
def ReadyB (X : Cx) (pins : List (Addr × Obj)) (σ : L2.St) (H1 : Hp) (P : Addr) (n : Nat) (tr : Nat → Bool) (g : Addr) (s5 : Shared) : Prop :=
  ∃ (fp wr : List Addr) (G : Array GenState → Array GenState → Prop) (F : Nat → Value → Prop) (St : Nat → Shared → Prop), WalksS X.prog X.w X.A.in1 g fp wr G n F St ∧
    St 0 s5 ∧ TruthOf X.prog X.w X.A.in1 F tr ∧ ∀ s', Moved wr G s5 s' → ∃ H2, Tabbed P H1 H2 ∧ Inv X pins σ H2 s'
/-- the element at the item i, whatever time it is -/
def EltI (X : Cx) (P : Addr) (scope : Scope) (x : Str) (elt : Expr) (s1 : Shared) (Pf : Nat → Value → Prop) (tr : Nat → Bool) : Prop :=
  ∀ (cenv : Env) (A' : Around) (E' : Value → Shared → Prop) (i : Nat) (v : Value) (s₂ : Shared) (m₂ : Str → Option Value), cenv.scope = scope → cenv.cells = cloFrom X.env.cells scope.names [] →
    cenv.globals = X.env.globals → A'.handled = none → A'.units ≤ X.A.units + 8 → Pf i v → s₂.heap.Ns cenv.locals m₂ → m₂ x = some v → (∀ b u, b ≠ P → s1.heap.get? b = some u → s₂.heap.get? b = some u) →
    wpAny (model X.prog X.w) A' (eval elt cenv) (fun y s₃ => y = .bool (tr i) ∧ Keeps s₂ s₃) E' s₂
theorem gen_run {c P : Addr} {elt : Expr} {x : Str} {gpos : Pos} {scope : Scope} {k : Nat} {Q' : Value → Shared → Prop} {xv : Value} {o : Obj} {n : Nat} {Pf : Nat → Value → Prop} {St : Nat → Heap → Prop} {fp : List Addr} {tr : Nat → Bool}
    (hr : Room k X.A) (TB : TabB X.base X.mg c P) (hcode : X.env.code = .ref c) (I : Inv X pins σ H s) (hT : TabG H P)
    (hit : ∀ Q₂ : Value → Shared → Prop, Q₂ (.ref s.heap.objs.size) { s with heap := s.heap.push o } → wpAny (model X.prog X.w) X.A (pyIter xv) Q₂ X.xe s)
    (hW : ∀ A' : Around, A'.handled = none → Walks X.prog X.w A' s.heap.objs.size fp [s.heap.objs.size] n Pf St)
    (hst : ∀ h3 : Heap, (∀ b u, b ≠ P → (s.heap.push o).get? b = some u → h3.get? b = some u) → St 0 h3) (hfp : ∀ b ∈ fp, b ≤ s.heap.objs.size)
    (hel : EltI X P scope x elt s Pf tr) (hQ : ∀ g s5, ReadyB X pins σ H P n tr g s5 → Q' (.ref g) s5) :
    wpAny (model X.prog X.w) X.A (pyIter xv) (fun it s₂ => s₂.heap.NoLimit ∧ wpAny (model X.prog X.w) X.A (genexprCode X.env gpos (X.env.qual ++ "<genexpr>") scope) (fun code s₃ =>
      wpAny (model X.prog X.w) X.A (builtinsFor X.env.globals X.env.builtins) (fun bi s₄ => ∃ I fp wr n₀ P St₀ pz F, it = .ref I ∧ (∀ A' : Around, A'.handled = none → Walks X.prog X.w A' I fp wr n₀ P St₀) ∧ St₀ 0 s₄.heap ∧
        (∀ b ∈ fp, b < s₄.heap.objs.size) ∧ s₄.heap.NoLimit ∧ cStatics ∉ wr ∧ (∀ href : Heap, (∀ b o, s₄.heap.get? b = some o → href.get? b = some o) →
          QuietGenD X.prog X.w (genEnv scope (cloFrom X.env.cells scope.names []) s₄.heap.objs.size code bi X.env) x [] elt (List.range s₄.heap.objs.size) wr P pz F href (X.A.depth + 1) (X.A.units + 8)) ∧
        (∀ a h₅ tk gs, gs.bare = true → s₄.heap.objs.size < a → h₅.objs.size = a + 1 → (∀ b o, s₄.heap.get? b = some o → h₅.get? b = some o) → WalksS X.prog X.w X.A.in4 a (a :: s₄.heap.objs.size :: List.range s₄.heap.objs.size) (s₄.heap.objs.size :: wr)
            (GenOnlyQ s₄.gens.size) (passing pz n₀ 0).length (fun j y => ∃ i, (passing pz n₀ 0)[j]? = some i ∧ F i y) (GenAt X.prog X.w X.A.in4 a s₄.gens.size s₄.heap.objs.size (List.range s₄.heap.objs.size) wr pz n₀ F) →
          GenAt X.prog X.w X.A.in4 a s₄.gens.size s₄.heap.objs.size (List.range s₄.heap.objs.size) wr pz n₀ F 0 { s₄ with gens := s₄.gens.push gs, toks := tk, heap := h₅ } → Q' (.ref a) { s₄ with gens := s₄.gens.push gs, toks := tk, heap := h₅ })) X.xe s₃) X.xe s₂) X.xe s := by
  obtain ⟨ps, hP, ht⟩ := hT
  refine hit _ ?_
  have hPs := I.hok P _ hP
  have hPs : s.heap.get? P = some { cls := .none, data := .fields ps } := hPs
  have Plt := Heap.lt_size hPs
  have hP2 : (s.heap.push o).get? P = some { cls := .none, data := .fields ps } := Heap.get?_push_of_some _ hPs
  have cd := TB.code.keeps fun b u e => Heap.get?_push_of_some o (I.bk b u e)
  have lim2 := I.nolimit.push o
  have stat : cStatics ≠ P ∧ cStatics < s.heap.objs.size := by
    obtain ⟨_, hns, _⟩ := I.nolimit
    refine ⟨fun e => ?_, hns.lt⟩
    obtain ⟨o', es, ep, ho, hd, _⟩ := hns
    rw [e, hPs] at ho
    cases ho
    cases hd
  refine ⟨lim2, ?_⟩
  -- what follows once the code object is there: its table at P holds ps', grown out of ps
  have rest : ∀ (h3 : Heap) (tk : Nat) (more : Array Value), Heap.ExtBut P (s.heap.push o) h3 → (s.heap.push o).objs.size ≤ h3.objs.size → h3.get? P = some { cls := .none, data := .fields (ps ++ more) } → TriplesOk (ps ++ more).toList →
      ∀ (Qb : Addr → Shared → Prop), (∀ bi : Addr, Qb bi { s with heap := h3, toks := tk }) → wpAny (model X.prog X.w) X.A (builtinsFor X.env.globals X.env.builtins) Qb X.xe { s with heap := h3, toks := tk } := by
    intro h3 tk more hx hsz hP3 ht3 Qb hQb
    obtain ⟨bm, ob, e1, e2, e3, e4, e5, e6, e7, e8⟩ := TB.bm
    have old : ∀ b u, b ≠ P → s.heap.get? b = some u → h3.get? b = some u := fun b u hb e => hx b u hb (Heap.get?_push_of_some _ e)
    refine wpAny_builtinsFor (m := X.mg) ?_ e1 e2 (old _ _ e4 (I.bk _ _ e5)) e6 e7 e8 (hQb _)
    rw [I.ok.glob]
    exact ((I.mod.glob.keeps I.bk).push o).extBut hx TB.gP
  have core : ∀ (code : Value) (h3 : Heap) (tk : Nat) (more : Array Value) (bi : Addr), Heap.ExtBut P (s.heap.push o) h3 → (s.heap.push o).objs.size ≤ h3.objs.size → h3.get? P = some { cls := .none, data := .fields (ps ++ more) } → TriplesOk (ps ++ more).toList →
      (∀ b ∈ fp, b < h3.objs.size) ∧ h3.NoLimit ∧ cStatics ∉ [s.heap.objs.size] ∧ (∀ href : Heap, (∀ b o, h3.get? b = some o → href.get? b = some o) →
        QuietGenD X.prog X.w (genEnv scope (cloFrom X.env.cells scope.names []) h3.objs.size code bi X.env) x [] elt (List.range h3.objs.size) [s.heap.objs.size] Pf (fun _ => true) (fun i y => i < n → y = .bool (tr i)) href (X.A.depth + 1) (X.A.units + 8)) := by
    intro code h3 tk more bi hx hsz hP3 ht3
    have sz2 : (s.heap.push o).objs.size = s.heap.objs.size + 1 := Heap.size_push ..
    refine ⟨fun b hb => ?_, lim2.extBut hx stat.1, fun z => ?_, fun href hh => ⟨?_, ?_⟩⟩
    · exact Nat.lt_of_le_of_lt (hfp b hb) (show s.heap.objs.size < h3.objs.size by omega)
    · have z2 := List.mem_singleton.mp z
      exact absurd stat.2 (by rw [z2]; exact Nat.lt_irrefl _)
    · intro A' E' i v s₂ m₂ _ _ _ _ _ _ _
      simp only [List.forIn_nil]
      exact wpAny_pure ⟨rfl, keeps_refl _⟩
    · intro A' E' i v s₂ m₂ hA _ hU hPf _ hn hm hk
      refine wpAny_mono (hel _ A' E' i v s₂ m₂ rfl rfl rfl hA hU hPf hn hm fun b u hb e => ?_) (fun y s₃ q => ⟨fun _ => q.1, q.2⟩) fun _ _ q => q
      have h3b := hx b u hb (Heap.get?_push_of_some _ e)
      refine hk b (List.mem_range.mpr (Heap.lt_size h3b)) (fun z => ?_) u (hh b u h3b)
      rw [List.mem_singleton.mp z] at e
      exact absurd (Heap.lt_size e) (Nat.lt_irrefl _)
  have fin : ∀ (h3 : Heap) (tk : Nat) (more : Array Value), Heap.ExtBut P (s.heap.push o) h3 → (s.heap.push o).objs.size ≤ h3.objs.size → h3.get? P = some { cls := .none, data := .fields (ps ++ more) } → TriplesOk (ps ++ more).toList →
      ∀ (a : Addr) (h₅ : Heap) (tk5 : Nat) (gs : GenState), gs.bare = true → h3.objs.size < a → (∀ b o, h3.get? b = some o → h₅.get? b = some o) →
      WalksS X.prog X.w X.A.in4 a (a :: h3.objs.size :: List.range h3.objs.size) (h3.objs.size :: [s.heap.objs.size]) (GenOnlyQ s.gens.size) (passing (fun _ => true) n 0).length (fun j y => ∃ i, (passing (fun _ => true) n 0)[j]? = some i ∧ (i < n → y = .bool (tr i)))
        (GenAt X.prog X.w X.A.in4 a s.gens.size h3.objs.size (List.range h3.objs.size) [s.heap.objs.size] (fun _ => true) n fun i y => i < n → y = .bool (tr i)) →
      GenAt X.prog X.w X.A.in4 a s.gens.size h3.objs.size (List.range h3.objs.size) [s.heap.objs.size] (fun _ => true) n (fun i y => i < n → y = .bool (tr i)) 0 { s with gens := s.gens.push gs, toks := tk5, heap := h₅ } →
      Q' (.ref a) { s with gens := s.gens.push gs, toks := tk5, heap := h₅ } := by
    intro h3 tk more hx hsz hP3 ht3 a h₅ tk5 gs hgb hag hk5 W5 hat
    have sz2 : (s.heap.push o).objs.size = s.heap.objs.size + 1 := Heap.size_push ..
    have old : ∀ b u, b ≠ P → s.heap.get? b = some u → h3.get? b = some u := fun b u hb e => hx b u hb (Heap.get?_push_of_some _ e)
    simp only [GxR.passing_true, List.length_range] at W5
    refine hQ a _ ⟨_, _, _, _, _, W5.in4_1, hat, ?_, fun s' hm => ?_⟩
    · rintro j y sj Qj Ej ⟨i, hij, hy⟩ hQj
      obtain ⟨hj, ej⟩ := List.getElem?_eq_some_iff.mp hij
      rw [List.length_range] at hj
      rw [List.getElem_range] at ej
      subst ej
      rw [hy hj]
      exact wpAny_truthy_bool hQj
    · have far : ∀ b u, s.heap.get? b = some u → b ∉ h3.objs.size :: [s.heap.objs.size] := fun b u e hb => by
        have l := Heap.lt_size e
        rcases List.mem_cons.mp hb with z | z
        · rw [z] at l
          exact absurd l (Nat.not_lt.mpr (show s.heap.objs.size ≤ h3.objs.size by omega))
        · rw [List.mem_singleton.mp z] at l
          exact Nat.lt_irrefl _ l
      have J := inv_tab (more := more) (h' := s'.heap) (g' := s'.gens) (d' := s'.drawn) (t' := s'.toks) I hP
        (fun b u hb e => hm.heap b u (far b u e) (hk5 b u (old b u hb e))) (hm.heap P _ (far P _ hPs) (hk5 P _ hP3)) (AllBare.movedS (I.bare.push hgb) hm)
      rw [sh_eta s s' hm.os] at J
      exact ⟨_, ⟨⟨_, upd_same, ht3⟩, fun b hb => upd_ne hb⟩, J⟩
  cases hf : codeAmong gpos ps.toList with
  | none =>
    refine wpAny_genexprCodeX hcode (cd.code hP2 ht) (cd.tab hP2) hf fun c' h' tk hx hge hlt hco' _ htab' _ => ?_
    obtain ⟨o1, vs, f1, tf, fl, tg, inF, tx, tt, op, _, _, _, _, _, _, _, _, _, htr, _⟩ := hco'
    have hsz := Nat.le_trans hge (Nat.le_of_lt hlt)
    refine rest h' tk _ hx hsz htab'.2 htr _ fun bi => ?_
    refine ⟨_, fp, _, n, Pf, St, (fun _ => true), (fun i y => i < n → y = .bool (tr i)), rfl, hW, hst h' hx, ?_⟩
    obtain ⟨q1, q2, q3, q4⟩ := core _ h' tk _ bi hx hsz htab'.2 htr
    exact ⟨q1, q2, q3, q4, fun a h₅ tk5 gs g1 g2 _ g4 => fin h' tk _ hx hsz htab'.2 htr a h₅ tk5 gs g1 g2 g4⟩
  | some cv =>
    refine wpAny_genexprCode_hit hcode (cd.code hP2 ht) hf ?_
    have e0 : ps ++ #[] = ps := by simp
    have hP3 : (s.heap.push o).get? P = some { cls := .none, data := .fields (ps ++ #[]) } := by rw [e0]; exact hP2
    have ht3 : TriplesOk (ps ++ #[]).toList := by rw [e0]; exact ht
    have hx0 : Heap.ExtBut P (s.heap.push o) (s.heap.push o) := Heap.ExtBut.refl _ _
    refine rest (s.heap.push o) s.toks #[] hx0 (Nat.le_refl _) hP3 ht3 _ fun bi => ?_
    refine ⟨_, fp, _, n, Pf, St, (fun _ => true), (fun i y => i < n → y = .bool (tr i)), rfl, hW, hst _ hx0, ?_⟩
    obtain ⟨q1, q2, q3, q4⟩ := core cv (s.heap.push o) s.toks #[] bi hx0 (Nat.le_refl _) hP3 ht3
    exact ⟨q1, q2, q3, q4, fun a h₅ tk5 gs g1 g2 _ g4 => fin (s.heap.push o) s.toks #[] hx0 (Nat.le_refl _) hP3 ht3 a h₅ tk5 gs g1 g2 g4⟩
/-- the element for an item v of which G says that it gives b -/
def EltB (X : Cx) (P : Addr) (scope : Scope) (x : Str) (elt : Expr) (G : L2.St → Hp → V → Bool → Prop) : Prop :=
  ∀ (pins : List (Addr × Obj)) (σ : L2.St) (H : Hp) (s1 : Shared) (v : V) (b : Bool), Inv X pins σ H s1 → TabG H P → G σ H v b → ∀ (cenv : Env) (A' : Around) (E' : Value → Shared → Prop) (u : Value) (s₂ : Shared) (m₂ : Str → Option Value),
    cenv.scope = scope → cenv.cells = cloFrom X.env.cells scope.names [] → cenv.globals = X.env.globals → A'.handled = none → A'.units ≤ X.A.units + 8 → RelV v u → s₂.heap.Ns cenv.locals m₂ → m₂ x = some u →
    (∀ b u, b ≠ P → s1.heap.get? b = some u → s₂.heap.get? b = some u) → wpAny (model X.prog X.w) A' (eval elt cenv) (fun y s₃ => y = .bool b ∧ Keeps s₂ s₃) E' s₂
/-- the truths in their places -/
def trAt (f : V → Bool) (vs : List V) (j : Nat) : Bool := match vs[j]? with
  | some z => f z
  | none => true
theorem trAt_all (f : V → Bool) (vs : List V) : (List.range vs.length).all (trAt f vs) = vs.all f := by
  rw [Bool.eq_iff_iff, List.all_eq_true, List.all_eq_true]
  constructor
  · intro h z hz
    obtain ⟨j, hj, e⟩ := List.getElem_of_mem hz
    have q := h j (List.mem_range.mpr hj)
    unfold trAt at q
    rw [List.getElem?_eq_getElem hj, e] at q
    exact q
  · intro h j hj
    unfold trAt
    rw [List.getElem?_eq_getElem (List.mem_range.mp hj)]
    exact h _ (List.getElem_mem _)
/-- all(elt for x in e), e a list or a tuple; behind it the def's table may have grown -/
def tAllQ (K : PySem.W.Frag) (P : Addr) (G : L2.St → Hp → V → Bool → Prop) (te : TE) : TE := fun σ H Q => te σ H fun v H1 =>
  ∃ (a : Addr) (vs : List V) (f : V → Bool), v = .ref a ∧ (SqL K H1 a vs ∨ SqT K H1 a vs) ∧ TabG H1 P ∧ (∀ z ∈ vs, G σ H1 z (f z)) ∧ ∀ H2, Tabbed P H1 H2 → Q (.bl (vs.all f)) H2
theorem pe_allQ {c P : Addr} {elt iter : Expr} {x : Str} {px p pos gpos : Pos} {scope : Scope} {G : L2.St → Hp → V → Bool → Prop} {te : TE} {k : Nat} (hr : Room k X.A) (hg : Gl X "all") (hm : X.mg "all" = none)
    (TB : TabB X.base X.mg c P) (hcode : X.env.code = .ref c) (S : GenS X.env scope x) (hi : PE X iter te) (hel : EltB X P scope x elt G) (hs : ∀ v, genFold iter X.env v = pure v)
    (hb : bootBuiltins "all" = some (.builtin "all") := by decide +kernel)
    (he : starEach [.GeneratorExp elt [⟨.Name x px, iter, [], 0⟩] scope gpos] X.env = (false, eval (.GeneratorExp elt [⟨.Name x px, iter, [], 0⟩] scope gpos) X.env) :: starEach [] X.env := by rfl) :
    PE X (.Call (.Name "all" p) [.GeneratorExp elt [⟨.Name x px, iter, [], 0⟩] scope gpos] [] pos) (tAllQ X.K P G te) := by
  refine ⟨fun pins s σ H Q I h => wpAny_Call_Name_kw (ld_blt I hg hm hb (PyProof.Rows.callWith_builtin1 ?_ he (by rfl)))⟩
  rw [he]
  show wpAny _ _ (spliced ((false, eval (.GeneratorExp elt [⟨.Name x px, iter, [], 0⟩] scope gpos) X.env) :: backTo pos (starEach [] X.env))) _ _ s
  refine Calls.spliced_cons (wpAny_GeneratorExp_walksQD hr.hd S.co (closure_ok S.free) S.cell S.dot S.loc S.kind (by have := hr.dp; omega) ?_ hs)
  refine thn (hi.run pins s σ H _ I h) fun xv s1 ⟨v, H1, I1, r1, a, vs, f, ev, hq, hT, hG, hQ⟩ => ?_
  subst ev
  obtain rfl : xv = Value.ref a := r1
  -- the generator is made: it is walked
  have done : ∀ (n : Nat), n = vs.length → ∀ (g : Addr) (s5 : Shared), ReadyB X pins σ H1 P n (trAt f vs) g s5 → wpAny (model X.prog X.w) X.A (spliced (backTo pos (starEach [] X.env))) (fun ws s6 => wpAny (model X.prog X.w) X.A (call (.builtin "all") (.ref g :: ws)) (EP X pins σ Q) X.xe s6) X.xe s5 := by
    rintro n rfl g s5 ⟨fp, wr, Gq, F, St, W, hst, htr, hI⟩
    refine Calls.spliced_nil ?_
    refine call_all_walkS (W.self 0 _ _ _ hst ⟨g, fp, wr, Gq, _, F, St, _, rfl, W, hst, htr, fun s' hmv => ?_⟩)
    obtain ⟨H2, hT2, J⟩ := hI s' hmv
    refine ⟨.bl _, H2, J, rfl, ?_⟩
    rw [trAt_all]
    exact hQ H2 hT2
  obtain ⟨ps, hP, ht⟩ := id hT
  have hPs : s1.heap.get? P = some { cls := .none, data := .fields ps } := I1.hok P _ hP
  have item : ∀ (its : List Value), Vals vs its → EltI X P scope x elt s1 (fun i v => its.toArray[i]? = some v) (trAt f vs) := by
    intro its rv cenv A' E' i v s₂ m₂ c1 c2 c3 hA hU hv hn hmx hk
    have hv2 : its[i]? = some v := by simpa using hv
    obtain ⟨hl, _⟩ := List.getElem?_eq_some_iff.mp hv2
    rw [← rv.length] at hl
    have hz := List.getElem?_eq_getElem hl
    obtain ⟨u, hu, ru⟩ := rv.get hz
    rw [hv2] at hu
    cases hu
    have e : trAt f vs i = f vs[i] := by
      unfold trAt
      rw [hz]
    rw [e]
    exact hel pins σ H1 s1 vs[i] (f vs[i]) I1 hT (hG _ (List.getElem_mem hl)) cenv A' E' v s₂ m₂ c1 c2 c3 hA hU ru hn hmx hk
  rcases hq with hq | hq
  · obtain ⟨its, rv, pl, _⟩ := I1.list hq
    have hIL := pl.isList
    obtain ⟨ob, e1, e2⟩ := id hIL
    have aP : a ≠ P := fun z => by
      rw [z, hPs] at e1
      cases e1
      obtain ⟨_, _, e4⟩ := e2
      cases e4
    refine gen_run (Q' := fun v s5 => wpAny (model X.prog X.w) X.A (spliced (backTo pos (starEach [] X.env))) (fun ws s6 => wpAny (model X.prog X.w) X.A (call (.builtin "all") (v :: ws)) (EP X pins σ Q) X.xe s6) X.xe s5) (n := its.toArray.size) (Pf := fun i v => its.toArray[i]? = some v) (fp := [s1.heap.objs.size, a]) hr TB hcode I1 hT (fun Q₂ q => wpAny_pyIter_list hIL q) (fun A' hA => Walks.list hA _ _ (Nat.ne_of_lt (Heap.lt_size e1)) _) (fun h3 hx => ⟨?_, ?_⟩) ?_ (item its rv) (fun g s5 hR => ?_)
    · exact ⟨_, hx _ _ (Nat.ne_of_gt (Heap.lt_size hPs)) (Heap.get?_push_size _ rfl), rfl, rfl⟩
    · exact ⟨ob, hx _ _ aP (Heap.get?_push_of_some _ e1), e2⟩
    · intro b hb
      rcases List.mem_cons.mp hb with z | z
      · rw [z]
        exact Nat.le_refl _
      · rw [List.mem_singleton.mp z]
        exact Nat.le_of_lt (Heap.lt_size e1)
    · exact done its.toArray.size (by rw [List.size_toArray, rv.length]) g s5 hR
  · obtain ⟨its, rv, pl, _⟩ := I1.tuple hq
    have hIL : s1.heap.IsTuple a its.toArray := pl
    obtain ⟨ob, e1, e2⟩ := id hIL
    have aP : a ≠ P := fun z => by
      rw [z, hPs] at e1
      cases e1
      obtain ⟨_, _, e4⟩ := e2
      cases e4
    refine gen_run (Q' := fun v s5 => wpAny (model X.prog X.w) X.A (spliced (backTo pos (starEach [] X.env))) (fun ws s6 => wpAny (model X.prog X.w) X.A (call (.builtin "all") (v :: ws)) (EP X pins σ Q) X.xe s6) X.xe s5) (n := its.toArray.size) (Pf := fun i v => its.toArray[i]? = some v) (fp := [s1.heap.objs.size, a]) hr TB hcode I1 hT (fun Q₂ q => wpAny_pyIter_tuple hIL q) (fun A' hA => Walks.tuple hA _ _ (Nat.ne_of_lt (Heap.lt_size e1)) _) (fun h3 hx => ⟨?_, ?_⟩) ?_ (item its rv) (fun g s5 hR => ?_)
    · exact ⟨_, hx _ _ (Nat.ne_of_gt (Heap.lt_size hPs)) (Heap.get?_push_size _ rfl), rfl, rfl⟩
    · exact ⟨ob, hx _ _ aP (Heap.get?_push_of_some _ e1), e2⟩
    · intro b hb
      rcases List.mem_cons.mp hb with z | z
      · rw [z]
        exact Nat.le_refl _
      · rw [List.mem_singleton.mp z]
        exact Nat.le_of_lt (Heap.lt_size e1)
    · exact done its.toArray.size (by rw [List.size_toArray, rv.length]) g s5 hR
/-- 0 <= x < y, y a captured name that stands in the slot j -/
def GBelow (j : Nat) : L2.St → Hp → V → Bool → Prop := fun σ _ v b => ∃ n L : Int, v = .int n ∧ σ[j]? = some (some (.int L)) ∧ b = (decide (0 ≤ n) && decide (n < L))
theorem elt_below {P : Addr} {scope : Scope} {x y : Str} {j jc : Nat} {p0 p1 p2 p3 : Pos} (hk : scope.kind = .function) (hx : scope.names.lookup x = some .local) (hy : scope.names.lookup y = some .free) (hN : X.N[j]? = some y) (hv : X.env.scope.names.lookup y = some .cell)
    (hclo : (cloFrom X.env.cells scope.names []).lookup y = some ((X.env.cells.lookup y).getD 0))
    (hd : (x == ("__debug__" : Str)) = false := by decide) (hd2 : (y == ("__debug__" : Str)) = false := by decide) (hcd : (y == ("__classdict__" : Str)) = false := by decide) :
    EltB X P scope x (.Compare (.Constant (.int 0) jc p0) [.LtE, .Lt] [.Name x p1, .Name y p2] p3) (GBelow j) := by
  rintro pins σ H s1 v b I ⟨ps, hT, _⟩ ⟨n, L, rfl, hj, rfl⟩ cenv A' E' u s₂ m₂ rfl c2 _ _ _ ru hn hm kept
  obtain ⟨t, rfl⟩ := (show ∃ t, u = Value.int n t from ru)
  obtain ⟨m, _, hl⟩ := I.loc
  obtain ⟨uL, rL, look⟩ := hl j y _ hN hj (.inr (.inl hv))
  obtain ⟨tL, rfl⟩ := (show ∃ t, uL = Value.int L t from rL)
  have hP : s1.heap.get? P = some { cls := .none, data := .fields ps } := I.hok P _ hT
  rcases look with ⟨z, _⟩ | ⟨_, cc, hc, hcell⟩
  · rw [show X.env.kindOf y = X.env.scope.names.lookup y from rfl, hv] at z
    cases z
  · have hcell2 : s₂.heap.IsCell cc (some (.int L tL)) := by
      obtain ⟨o, e1, e2⟩ := hcell
      refine ⟨o, kept cc o (fun z => ?_) e1, e2⟩
      rw [z, hP] at e1
      cases e1
      cases e2
    refine Compare_chain (wpAny_Constant_int (chain_link ?_))
    refine wpAny_Name (wpAny_loadName_local hk hx hn hm ?_) hd
    refine le_int (wpAny_truthy_bool ?_)
    by_cases c0 : 0 ≤ n
    · rw [decide_eq_true c0, Bool.true_and]
      refine ite_tt (chain_last (wpAny_Name (wpAny_loadName_free hk hy (c := cc) ?_ hcell2 ?_ hcd) hd2))
      · rw [c2, hclo, hc] <;> rfl
      · exact lt_int ⟨rfl, keeps_tok _ _⟩
    · rw [decide_eq_false c0, Bool.false_and]
      exact ite_ff ⟨rfl, keeps_tok _ _⟩
end
end Mz

set_option Elab.async false
set_option linter.all false
set_option maxRecDepth 100000
set_option maxHeartbeats 4000000
/-! what the laws' own helpers draw: numbers, sizes, machines -/
namespace Mz
open PySem PySem.Spec PyProof.Rows L2
theorem same_upd {H H' : Hp} {p : Addr} {o : HO} (s : Same H H') (h : H' p = none) : Same H (upd H' p o) := fun b u e => by
  rw [upd_ne (ne_of_none (s b u e) h)]
  exact s b u e
theorem same_set {H H' : Hp} {p : Addr} {o : HO} (s : Same H H') (h : H p = none) : Same H (L2.upd H' p o) := fun b u e => by
  rw [upd_ne (ne_of_none e h)]
  exact s b u e
theorem getV {α : Type} {f : α → V} {ns : List α} {j : Nat} {z : α} (h : ns[j]? = some z) : (ns.map f)[j]? = some (f z) := by
  rw [List.getElem?_map, h]
  rfl
theorem ofV {α : Type} {f : α → V} {ns : List α} {j : Nat} {y : V} (h : (ns.map f)[j]? = some y) : ∃ z, ns[j]? = some z ∧ y = f z := by
  rw [List.getElem?_map] at h
  cases e : ns[j]? with
  | none =>
    rw [e] at h
    cases h
  | some z =>
    rw [e] at h
    exact ⟨z, rfl, (Option.some.inj h).symm⟩
theorem atI_get? {α : Type} {f : α → V} {ns : List α} {i : Int} {z : α} (h0 : 0 ≤ i) (h : ns[i.toNat]? = some z) : atI (ns.map f) i = some (f z) := by
  have e : i = ((i.toNat : Nat) : Int) := by omega
  rw [e]
  exact atI_nat (getV h)
theorem take_more {α : Type} : ∀ {l : List α} {i : Nat} {x : α}, l[i]? = some x → l.take (i + 1) = l.take i ++ [x]
  | [], i, x, h => by simp at h
  | a :: l, 0, x, h => by
    have e : a = x := Option.some.inj h
    subst e
    rfl
  | a :: l, i + 1, x, h => by
    have ih := take_more (l := l) (i := i) (x := x) h
    show a :: l.take (i + 1) = a :: l.take i ++ [x]
    rw [ih]
    rfl
/-! ### the numbers -/
/-- what a stream holds -/
structure Strm (ns : List Int) : Prop where
  ne : 0 < ns.length
  few : ns.length ≤ 4000
  ok : ∀ z ∈ ns, 0 ≤ z ∧ z < 1009
/-- the number at a place, below many -/
def pk (ns : List Int) (i many : Int) : Int := ns.getD (i % (ns.length : Int)).toNat 0 % many
theorem pk_lo {ns : List Int} {i many : Int} (h : 0 < many) : 0 ≤ pk ns i many := Int.emod_nonneg _ (by omega)
theorem pk_hi {ns : List Int} {i many : Int} (h : 0 < many) : pk ns i many < many := Int.emod_lt_of_pos _ h
theorem pk_at {ns : List Int} (i : Int) (h : 0 < ns.length) : ∃ z, ns[(i % (ns.length : Int)).toNat]? = some z ∧ ns.getD (i % (ns.length : Int)).toNat 0 = z ∧ 0 ≤ i % (ns.length : Int) := by
  have h0 := Int.emod_nonneg i (show (ns.length : Int) ≠ 0 by omega)
  have h1 := Int.emod_lt_of_pos i (show 0 < (ns.length : Int) by omega)
  have lt : (i % (ns.length : Int)).toNat < ns.length := by omega
  refine ⟨ns[(i % (ns.length : Int)).toNat], List.getElem?_eq_getElem lt, ?_, h0⟩
  rw [List.getD_eq_getElem?_getD, List.getElem?_eq_getElem lt]
  rfl
/-! ### machines -/
structure Mach where
  ls : Int
  os : Int
  rows : List (List Int)
  outs : List Int
/-- a tuple of ints -/
def IT (H : Hp) (a : Addr) (ns : List Int) : Prop := H a = some (.tup (ns.map V.int))
/-- the machine M stands at m -/
structure MAt (H : Hp) (m : Addr) (M : Mach) (mv ou : Addr) (rs : List Addr) : Prop where
  top : H m = some (.tup [.int M.ls, .int M.os, .ref mv, .ref ou])
  mv : H mv = some (.tup (rs.map V.ref))
  ou : IT H ou M.outs
  len : rs.length = M.rows.length
  row : ∀ (i : Nat) (r : Addr) (w : List Int), rs[i]? = some r → M.rows[i]? = some w → IT H r w
def MA (H : Hp) (m : Addr) (M : Mach) : Prop := ∃ mv ou rs, MAt H m M mv ou rs
theorem MAt.same {H H' : Hp} {m : Addr} {M : Mach} {mv ou : Addr} {rs : List Addr} (h : MAt H m M mv ou rs) (s : Same H H') : MAt H' m M mv ou rs :=
  ⟨s _ _ h.top, s _ _ h.mv, s _ _ h.ou, h.len, fun i r w a b => s _ _ (h.row i r w a b)⟩
theorem MA.same {H H' : Hp} {m : Addr} {M : Mach} (h : MA H m M) (s : Same H H') : MA H' m M := by
  obtain ⟨mv, ou, rs, h⟩ := h
  exact ⟨mv, ou, rs, h.same s⟩
/-- what check_machine asks -/
structure Good (M : Mach) : Prop where
  l1 : 1 ≤ M.ls
  l4 : M.ls ≤ 4
  o1 : 1 ≤ M.os
  o6 : M.os ≤ 6
  s1 : 1 ≤ M.rows.length
  s30 : M.rows.length ≤ 30
  ol : M.outs.length = M.rows.length
  rl : ∀ w ∈ M.rows, (w.length : Int) = M.ls
  rb : ∀ w ∈ M.rows, ∀ z ∈ w, 0 ≤ z ∧ z < (M.rows.length : Int)
  ob : ∀ z ∈ M.outs, 0 ≤ z ∧ z < M.os
/-- the next state -/
def Mach.next (M : Mach) (s a : Int) : Int := (M.rows.getD s.toNat []).getD a.toNat 0
def Mach.run (M : Mach) (s : Int) (w : List Int) : Int := w.foldl M.next s
def Mach.out (M : Mach) (s : Int) : Int := M.outs.getD s.toNat 0
/-- a state -/
def Mach.St (M : Mach) (s : Int) : Prop := 0 ≤ s ∧ s < (M.rows.length : Int)
/-- letters -/
def Lt (k : Int) (w : List Int) : Prop := ∀ z ∈ w, 0 ≤ z ∧ z < k
theorem Good.st0 {M : Mach} (g : Good M) : M.St 0 := ⟨by decide, by have := g.s1; omega⟩
theorem Good.row {M : Mach} (g : Good M) {s : Int} (h : M.St s) : ∃ w, M.rows[s.toNat]? = some w ∧ w ∈ M.rows ∧ M.rows.getD s.toNat [] = w := by
  have lt : s.toNat < M.rows.length := by have := h.1; have := h.2; omega
  refine ⟨M.rows[s.toNat], List.getElem?_eq_getElem lt, List.getElem_mem lt, ?_⟩
  rw [List.getD_eq_getElem?_getD, List.getElem?_eq_getElem lt]
  rfl
theorem Good.step {M : Mach} (g : Good M) {s a : Int} (h : M.St s) (h0 : 0 ≤ a) (h1 : a < M.ls) : M.St (M.next s a) ∧ ∃ w, M.rows[s.toNat]? = some w ∧ w[a.toNat]? = some (M.next s a) := by
  obtain ⟨w, e1, e2, e3⟩ := g.row h
  have l := g.rl w e2
  have lt : a.toNat < w.length := by omega
  have e : M.next s a = w[a.toNat] := by
    unfold Mach.next
    rw [e3, List.getD_eq_getElem?_getD, List.getElem?_eq_getElem lt]
    rfl
  rw [e]
  exact ⟨g.rb w e2 _ (List.getElem_mem lt), w, e1, List.getElem?_eq_getElem lt⟩
theorem Good.outp {M : Mach} (g : Good M) {s : Int} (h : M.St s) : M.outs[s.toNat]? = some (M.out s) ∧ 0 ≤ M.out s ∧ M.out s < M.os := by
  have lt : s.toNat < M.outs.length := by have := h.1; have := h.2; have := g.ol; omega
  have e : M.out s = M.outs[s.toNat] := by
    unfold Mach.out
    rw [List.getD_eq_getElem?_getD, List.getElem?_eq_getElem lt]
    rfl
  rw [e]
  exact ⟨List.getElem?_eq_getElem lt, g.ob _ (List.getElem_mem lt)⟩
theorem Good.runs {M : Mach} (g : Good M) : ∀ {w : List Int} {s : Int}, M.St s → Lt M.ls w → M.St (M.run s w)
  | [], s, h, _ => h
  | a :: w, s, h, hw => Good.runs g (w := w) (g.step h (hw a (.head _)).1 (hw a (.head _)).2).1 fun z hz => hw z (.tail _ hz)
theorem run_snoc (M : Mach) (s : Int) (w : List Int) (a : Int) : M.run s (w ++ [a]) = M.next (M.run s w) a := by
  unfold Mach.run
  rw [List.foldl_append]
  rfl
/-! ### reading the parts of a machine -/
section
variable {K : PySem.W.Frag} {H : Hp} {m : Addr} {M : Mach} {mv ou : Addr} {rs : List Addr}
theorem MAt.rowAt (h : MAt H m M mv ou rs) {s : Int} (h0 : 0 ≤ s) {w : List Int} (e : M.rows[s.toNat]? = some w) : ∃ r, atI (rs.map V.ref) s = some (.ref r) ∧ IT H r w := by
  obtain ⟨lt, _⟩ := List.getElem?_eq_some_iff.mp e
  have lt2 : s.toNat < rs.length := by rw [h.len]; exact lt
  exact ⟨rs[s.toNat], atI_get? h0 (List.getElem?_eq_getElem lt2), h.row _ _ _ (List.getElem?_eq_getElem lt2) e⟩
end
end Mz

set_option Elab.async false
set_option linter.all false
set_option maxRecDepth 100000
set_option maxHeartbeats 4000000
/-! words in their order as numbers; pairs of states; the first word that parts a pair -/
namespace Mz
open PySem PySem.Spec PyProof.Rows L2
/-- words of letters below 4, in their order -/
def code (w : List Int) : Nat := w.foldl (fun n a => 5 * n + a.toNat + 1) 0
theorem code_snoc (w : List Int) (a : Int) : code (w ++ [a]) = 5 * code w + a.toNat + 1 := by
  unfold code
  rw [List.foldl_append]
  rfl
theorem snoc_ind {α : Type} {P : List α → Prop} (h0 : P []) (hs : ∀ w a, P w → P (w ++ [a])) (w : List α) : P w := by
  have key : ∀ (n : Nat) (w : List α), w.length = n → P w := by
    intro n
    induction n with
    | zero => intro w e; rw [List.length_eq_zero_iff.mp e]; exact h0
    | succ n ih =>
      intro w e
      have ne : w ≠ [] := fun z => by rw [z] at e; cases e
      rw [← List.dropLast_concat_getLast ne]
      exact hs _ _ (ih _ (by rw [List.length_dropLast, e]; rfl))
  exact key _ w rfl
theorem code_inj {k : Int} (hk : k ≤ 4) : ∀ (u v : List Int), Lt k u → Lt k v → code u = code v → u = v := by
  intro u
  induction u using snoc_ind with
  | h0 =>
    intro v _ hv e
    induction v using snoc_ind with
    | h0 => rfl
    | hs v b _ =>
      rw [code_snoc] at e
      have : code ([] : List Int) = 0 := rfl
      omega
  | hs u a ih =>
    intro v hu hv e
    induction v using snoc_ind with
    | h0 =>
      rw [code_snoc] at e
      have : code ([] : List Int) = 0 := rfl
      omega
    | hs v b _ =>
      rw [code_snoc, code_snoc] at e
      have ha := hu a (by simp)
      have hb := hv b (by simp)
      have e1 : a = b := by omega
      subst e1
      rw [ih v (fun z hz => hu z (by simp [hz])) (fun z hz => hv z (by simp [hz])) (by omega)]
theorem code_cons (a : Int) : ∀ w : List Int, code (a :: w) = (a.toNat + 1) * 5 ^ w.length + code w := by
  intro w
  induction w using snoc_ind with
  | h0 =>
    show 5 * 0 + a.toNat + 1 = (a.toNat + 1) * 5 ^ 0 + 0
    omega
  | hs w b ih =>
    rw [← List.cons_append, code_snoc, code_snoc, ih, List.length_append, List.length_singleton, Nat.pow_succ]
    have e : (a.toNat + 1) * (5 ^ w.length * 5) = 5 * ((a.toNat + 1) * 5 ^ w.length) := by
      rw [← Nat.mul_assoc, Nat.mul_comm]
    rw [e]
    omega
theorem code_lt {k : Int} (hk : k ≤ 4) : ∀ {w : List Int}, Lt k w → code w < 5 ^ w.length := by
  intro w
  induction w using snoc_ind with
  | h0 => intro _; show 0 < 1; omega
  | hs w b ih =>
    intro h
    have i := ih fun z hz => h z (by simp [hz])
    have hb := h b (by simp)
    rw [code_snoc, List.length_append, List.length_singleton, Nat.pow_succ]
    omega
theorem code_ge : ∀ w : List Int, 5 ^ w.length ≤ 4 * code w + 1 := by
  intro w
  induction w using snoc_ind with
  | h0 => show 1 ≤ _; omega
  | hs w b ih =>
    rw [code_snoc, List.length_append, List.length_singleton, Nat.pow_succ]
    omega
/-- a shorter word comes first -/
theorem code_short {k : Int} (hk : k ≤ 4) {u v : List Int} (hu : Lt k u) (h : u.length < v.length) : code u < code v := by
  have h1 := code_lt hk hu
  have h2 := code_ge v
  have h3 : 5 ^ (u.length + 1) ≤ 5 ^ v.length := Nat.pow_le_pow_right (by decide) h
  rw [Nat.pow_succ] at h3
  omega
/-! ### pairs of states -/
abbrev Pr := Int × Int
section
variable (M N : Mach)
def stepP (p : Pr) (a : Int) : Pr := (M.next p.1 a, N.next p.2 a)
def runP (p : Pr) (w : List Int) : Pr := w.foldl (stepP M N) p
def Bad (p : Pr) : Prop := M.out p.1 ≠ N.out p.2
/-- both are states -/
def InP (p : Pr) : Prop := M.St p.1 ∧ N.St p.2
/-- machines of a kind -/
structure Kin : Prop where
  gm : Good M
  gn : Good N
  ls : M.ls = N.ls
/-- w is the first word that parts p -/
structure Part (p : Pr) (w : List Int) : Prop where
  lt : Lt M.ls w
  bad : Bad M N (runP M N p w)
  min : ∀ v, Lt M.ls v → Bad M N (runP M N p v) → code w ≤ code v
/-- no word parts p -/
def NoPart (p : Pr) : Prop := ∀ v, Lt M.ls v → ¬ Bad M N (runP M N p v)
end
section
variable {M N : Mach}
theorem runP_snoc (p : Pr) (w : List Int) (a : Int) : runP M N p (w ++ [a]) = stepP M N (runP M N p w) a := by
  unfold runP
  rw [List.foldl_append]
  rfl
theorem runP_cons (p : Pr) (w : List Int) (a : Int) : runP M N p (a :: w) = runP M N (stepP M N p a) w := rfl
theorem Kin.step (k : Kin M N) {p : Pr} (h : InP M N p) {a : Int} (h0 : 0 ≤ a) (h1 : a < M.ls) : InP M N (stepP M N p a) :=
  ⟨(k.gm.step h.1 h0 h1).1, (k.gn.step h.2 h0 (by rw [← k.ls]; exact h1)).1⟩
theorem Part.uniq (k : Kin M N) {p : Pr} {u v : List Int} (hu : Part M N p u) (hv : Part M N p v) : u = v :=
  code_inj k.gm.l4 u v hu.lt hv.lt (Nat.le_antisymm (hu.min v hv.lt hv.bad) (hv.min u hu.lt hu.bad))
theorem Part.not (k : Kin M N) {p : Pr} {u : List Int} (hu : Part M N p u) (hn : NoPart M N p) : False := hn u hu.lt hu.bad
theorem lt_snoc {k : Int} {w : List Int} {a : Int} : Lt k (w ++ [a]) ↔ Lt k w ∧ 0 ≤ a ∧ a < k := by
  constructor
  · intro h
    exact ⟨fun z hz => h z (by simp [hz]), h a (by simp)⟩
  · rintro ⟨h1, h2⟩ z hz
    rcases List.mem_append.mp hz with e | e
    · exact h1 z e
    · rw [List.mem_singleton.mp e]
      exact h2
/-! ### the search by widths -/
structure Nd where
  pr : Pr
  wd : List Int
  ta : Addr
  wa : Addr
/-- all places below pl are done, at pl the letters below a -/
structure Bfs (M N : Mach) (st : Pr) (L : List Nd) (pl a : Nat) : Prop where
  fst : ∃ n, L[0]? = some n ∧ n.pr = st ∧ n.wd = []
  inc : ∀ (i j : Nat) (x y : Nd), L[i]? = some x → L[j]? = some y → i < j → code x.wd < code y.wd
  run : ∀ x ∈ L, runP M N st x.wd = x.pr ∧ Lt M.ls x.wd ∧ InP M N x.pr
  done : ∀ (i b : Nat) (x : Nd), L[i]? = some x → (i < pl ∨ i = pl ∧ b < a) → (b : Int) < M.ls → ∃ y ∈ L, y.pr = stepP M N x.pr b ∧ code y.wd ≤ 5 * code x.wd + b + 1
  good : ∀ (i : Nat) (x : Nd), L[i]? = some x → (i < pl ∨ i = pl ∧ 0 < a) → ¬ Bad M N x.pr
  gen : ∀ (j : Nat) (y : Nd), L[j]? = some y → code y.wd = 0 ∨ ∃ (i b : Nat) (x : Nd), L[i]? = some x ∧ (i < pl ∨ i = pl ∧ b < a) ∧ (b : Int) < M.ls ∧ code y.wd = 5 * code x.wd + b + 1
  nod : (L.map (·.pr)).Nodup
  len : ∀ x ∈ L, x.wd.length ≤ L.length
theorem Bfs.here {st : Pr} {L : List Nd} {pl a : Nat} (B : Bfs M N st L pl a) {i : Nat} {x : Nd} (h : L[i]? = some x) : x ∈ L := List.mem_of_getElem? h
theorem Bfs.start (k : Kin M N) {st : Pr} (h : InP M N st) {t w : Addr} : Bfs M N st [⟨st, [], t, w⟩] 0 0 where
  fst := ⟨_, rfl, rfl, rfl⟩
  inc := fun i j x y hi hj lt => by
    have h1 := (List.getElem?_eq_some_iff.mp hj).1
    simp at h1
    omega
  run := fun x hx => by
    rw [List.mem_singleton.mp hx]
    exact ⟨rfl, fun z hz => absurd hz (by simp), h⟩
  done := fun i b x _ o => by
    rcases o with o | o
    · exact absurd o (Nat.not_lt_zero _)
    · exact absurd o.2 (Nat.not_lt_zero _)
  good := fun i x _ o => by
    rcases o with o | o
    · exact absurd o (Nat.not_lt_zero _)
    · exact absurd o.2 (Nat.not_lt_zero _)
  gen := fun j y hy => by
    rw [List.mem_singleton.mp (List.mem_of_getElem? hy)]
    exact .inl rfl
  nod := by simp
  len := fun x hx => by
    rw [List.mem_singleton.mp hx]
    exact Nat.zero_le _
/-- each word is led by a done place, or not before the place -/
theorem Bfs.claim (k : Kin M N) {st : Pr} {L : List Nd} {pl : Nat} (B : Bfs M N st L pl 0) : ∀ v : List Int, Lt M.ls v →
    (∃ (i : Nat) (x : Nd), L[i]? = some x ∧ i < pl ∧ x.pr = runP M N st v ∧ code x.wd ≤ code v) ∨ ∃ (i : Nat) (x : Nd), L[i]? = some x ∧ pl ≤ i ∧ code x.wd ≤ code v := by
  intro v
  induction v using snoc_ind with
  | h0 =>
    intro _
    obtain ⟨n, e, e1, e2⟩ := B.fst
    by_cases h : 0 < pl
    · exact .inl ⟨0, n, e, h, e1, by rw [e2]; exact Nat.le_refl _⟩
    · exact .inr ⟨0, n, e, by omega, by rw [e2]; exact Nat.le_refl _⟩
  | hs v a ih =>
    intro hv
    obtain ⟨hv1, a0, a1⟩ := lt_snoc.mp hv
    rw [code_snoc]
    rcases ih hv1 with ⟨i, x, e, lt, e1, e2⟩ | ⟨i, x, e, le, e2⟩
    · obtain ⟨y, hy, y1, y2⟩ := B.done i a.toNat x e (.inl lt) (by omega)
      obtain ⟨j, hj, ej⟩ := List.getElem_of_mem hy
      have hj2 : L[j]? = some y := by rw [List.getElem?_eq_getElem hj, ej]
      have ea : ((a.toNat : Nat) : Int) = a := by omega
      by_cases h : j < pl
      · exact .inl ⟨j, y, hj2, h, by rw [runP_snoc, ← e1, y1, ea], by omega⟩
      · exact .inr ⟨j, y, hj2, by omega, by omega⟩
    · exact .inr ⟨i, x, e, le, by omega⟩
theorem Bfs.found (k : Kin M N) {st : Pr} {L : List Nd} {pl : Nat} (B : Bfs M N st L pl 0) {x : Nd} (hx : L[pl]? = some x) (hb : Bad M N x.pr) : Part M N st x.wd where
  lt := (B.run x (B.here hx)).2.1
  bad := by
    rw [(B.run x (B.here hx)).1]
    exact hb
  min := fun v hv hb2 => by
    rcases B.claim k v hv with ⟨i, y, e, lt, e1, e2⟩ | ⟨i, y, e, le, e2⟩
    · rw [← e1] at hb2
      exact absurd hb2 (B.good i y e (.inl lt))
    · by_cases h : pl = i
      · subst h
        rw [hx] at e
        cases e
        exact e2
      · have := B.inc pl i x y hx e (by omega)
        omega
theorem Bfs.none (k : Kin M N) {st : Pr} {L : List Nd} (B : Bfs M N st L L.length 0) : NoPart M N st := fun v hv hb => by
  rcases B.claim k v hv with ⟨i, y, e, lt, e1, e2⟩ | ⟨i, y, e, le, e2⟩
  · rw [← e1] at hb
    exact B.good i y e (.inl lt) hb
  · have := (List.getElem?_eq_some_iff.mp e).1
    omega
theorem Bfs.enter {st : Pr} {L : List Nd} {pl : Nat} (B : Bfs M N st L pl 0) {x : Nd} (hx : L[pl]? = some x) (hb : ¬ Bad M N x.pr) : True := trivial
/-- the letter's pair is there -/
theorem Bfs.old (k : Kin M N) {st : Pr} {L : List Nd} {pl a : Nat} (B : Bfs M N st L pl a) {x : Nd} (hx : L[pl]? = some x) (hb : ¬ Bad M N x.pr) (ha : (a : Int) < M.ls) {y : Nd} (hy : y ∈ L) (e : y.pr = stepP M N x.pr a) : Bfs M N st L pl (a + 1) where
  fst := B.fst
  inc := B.inc
  run := B.run
  done := fun i b z hz o hb2 => by
    rcases o with o | ⟨o1, o2⟩
    · exact B.done i b z hz (.inl o) hb2
    · by_cases h : b = a
      · subst h o1
        rw [hx] at hz
        cases hz
        refine ⟨y, hy, e, ?_⟩
        obtain ⟨j, hj, ej⟩ := List.getElem_of_mem hy
        have hj2 : L[j]? = some y := by rw [List.getElem?_eq_getElem hj, ej]
        rcases B.gen j y hj2 with q | ⟨i2, b2, x2, q1, q2, q3, q4⟩
        · omega
        · rcases q2 with q2 | ⟨q2, q5⟩
          · have := B.inc i2 i x2 x q1 hx q2
            have := k.gm.l4
            omega
          · subst q2
            rw [hx] at q1
            cases q1
            omega
      · exact B.done i b z hz (.inr ⟨o1, by omega⟩) hb2
  good := fun i z hz o => by
    rcases o with o | ⟨o1, o2⟩
    · exact B.good i z hz (.inl o)
    · subst o1
      rw [hx] at hz
      cases hz
      exact hb
  gen := fun j z hz => by
    rcases B.gen j z hz with q | ⟨i2, b2, x2, q1, q2, q3, q4⟩
    · exact .inl q
    · refine .inr ⟨i2, b2, x2, q1, ?_, q3, q4⟩
      rcases q2 with q2 | ⟨q2, q5⟩
      · exact .inl q2
      · exact .inr ⟨q2, by omega⟩
  nod := B.nod
  len := B.len
theorem get_app {α : Type} {l : List α} {z y : α} {i : Nat} (h : (l ++ [z])[i]? = some y) : l[i]? = some y ∨ (i = l.length ∧ y = z) := by
  by_cases c : i < l.length
  · rw [List.getElem?_append_left c] at h
    exact .inl h
  · have lt := (List.getElem?_eq_some_iff.mp h).1
    rw [List.length_append, List.length_singleton] at lt
    have e : i = l.length := by omega
    subst e
    rw [List.getElem?_append_right (Nat.le_refl _), Nat.sub_self] at h
    cases h
    exact .inr ⟨rfl, rfl⟩
theorem get_app1 {α : Type} {l : List α} {z y : α} {i : Nat} (h : l[i]? = some y) : (l ++ [z])[i]? = some y := by
  rw [List.getElem?_append_left (List.getElem?_eq_some_iff.mp h).1]
  exact h
/-- the letter's pair is new -/
theorem Bfs.push (k : Kin M N) {st : Pr} {L : List Nd} {pl a : Nat} (B : Bfs M N st L pl a) {x : Nd} (hx : L[pl]? = some x) (hb : ¬ Bad M N x.pr) (ha : (a : Int) < M.ls) {t w : Addr} (new : ∀ y ∈ L, y.pr ≠ stepP M N x.pr a) :
    Bfs M N st (L ++ [⟨stepP M N x.pr a, x.wd ++ [(a : Int)], t, w⟩]) pl (a + 1) := by
  have l4 := k.gm.l4
  have big : ∀ (j : Nat) (y : Nd), L[j]? = some y → code y.wd < 5 * code x.wd + a + 1 := fun j y hy => by
    rcases B.gen j y hy with q | ⟨i2, b2, x2, q1, q2, q3, q4⟩
    · omega
    · rcases q2 with q2 | ⟨q2, q5⟩
      · have := B.inc i2 pl x2 x q1 hx q2
        omega
      · subst q2
        rw [hx] at q1
        cases q1
        omega
  have cn : code (x.wd ++ [(a : Int)]) = 5 * code x.wd + a + 1 := by rw [code_snoc]; omega
  obtain ⟨r1, r2, r3⟩ := B.run x (B.here hx)
  refine ⟨?_, ?_, ?_, ?_, ?_, ?_, ?_, ?_⟩
  · obtain ⟨n, e, e2⟩ := B.fst
    exact ⟨n, get_app1 e, e2⟩
  · intro i j u v hu hv lt
    rcases get_app hv with hv | ⟨ev, rfl⟩
    · rcases get_app hu with hu | ⟨eu, rfl⟩
      · exact B.inc i j u v hu hv lt
      · have := (List.getElem?_eq_some_iff.mp hv).1
        omega
    · rcases get_app hu with hu | ⟨eu, rfl⟩
      · show code u.wd < code (x.wd ++ [(a : Int)])
        rw [cn]
        exact big i u hu
      · omega
  · intro y hy
    rcases List.mem_append.mp hy with e | e
    · exact B.run y e
    · rw [List.mem_singleton.mp e]
      exact ⟨by rw [runP_snoc, r1], lt_snoc.mpr ⟨r2, by omega, ha⟩, k.step r3 (by omega) ha⟩
  · intro i b z hz o hb2
    have old : ∀ {y : Nd}, L[i]? = some z → ((i < pl) ∨ (i = pl ∧ b < a)) → ∃ y ∈ L ++ [⟨stepP M N x.pr a, x.wd ++ [(a : Int)], t, w⟩], y.pr = stepP M N z.pr b ∧ code y.wd ≤ 5 * code z.wd + b + 1 := fun {y} h1 h2 => by
      obtain ⟨y, hy, q⟩ := B.done i b z h1 h2 hb2
      exact ⟨y, List.mem_append.mpr (.inl hy), q⟩
    have lt : i < L.length := by
      have := (List.getElem?_eq_some_iff.mp hx).1
      omega
    rcases get_app hz with h0 | ⟨ez, _⟩
    · rcases o with o | ⟨o1, o2⟩
      · exact old (y := x) h0 (.inl o)
      · by_cases h : b = a
        · subst h o1
          rw [hx] at h0
          cases h0
          exact ⟨_, List.mem_append.mpr (.inr List.mem_cons_self), rfl, by show code (x.wd ++ [(b : Int)]) ≤ _; rw [cn]; omega⟩
        · exact old (y := x) h0 (.inr ⟨o1, by omega⟩)
    · omega
  · intro i z hz o
    have lt : i < L.length := by
      have := (List.getElem?_eq_some_iff.mp hx).1
      omega
    rcases get_app hz with hz | ⟨ez, _⟩
    · rcases o with o | ⟨o1, o2⟩
      · exact B.good i z hz (.inl o)
      · subst o1
        rw [hx] at hz
        cases hz
        exact hb
    · omega
  · intro j z hz
    rcases get_app hz with hz | ⟨ez, rfl⟩
    · rcases B.gen j z hz with q | ⟨i2, b2, x2, q1, q2, q3, q4⟩
      · exact .inl q
      · refine .inr ⟨i2, b2, x2, get_app1 q1, ?_, q3, q4⟩
        rcases q2 with q2 | ⟨q2, q5⟩
        · exact .inl q2
        · exact .inr ⟨q2, by omega⟩
    · exact .inr ⟨pl, a, x, get_app1 hx, .inr ⟨rfl, by omega⟩, ha, by rw [cn]⟩
  · rw [List.map_append]
    refine List.nodup_append.mpr ⟨B.nod, by simp, fun p hp q hq => ?_⟩
    obtain ⟨y, hy, rfl⟩ := List.mem_map.mp hp
    simp at hq
    rw [hq]
    exact new y hy
  · intro y hy
    rw [List.length_append, List.length_singleton]
    rcases List.mem_append.mp hy with e | e
    · have := B.len y e
      omega
    · rw [List.mem_singleton.mp e]
      show (x.wd ++ [(a : Int)]).length ≤ _
      rw [List.length_append, List.length_singleton]
      have := B.len x (B.here hx)
      omega
/-- on to the next place -/
theorem Bfs.next (k : Kin M N) {st : Pr} {L : List Nd} {pl : Nat} {a : Nat} (B : Bfs M N st L pl a) (ha : M.ls = a) : Bfs M N st L (pl + 1) 0 where
  fst := B.fst
  inc := B.inc
  run := B.run
  done := fun i b z hz o hb2 => by
    rcases o with o | ⟨_, o2⟩
    · by_cases h : i = pl
      · exact B.done i b z hz (.inr ⟨h, by omega⟩) hb2
      · exact B.done i b z hz (.inl (by omega)) hb2
    · exact absurd o2 (Nat.not_lt_zero _)
  good := fun i z hz o => by
    rcases o with o | ⟨_, o2⟩
    · by_cases h : i = pl
      · exact B.good i z hz (.inr ⟨h, by have := k.gm.l1; omega⟩)
      · exact B.good i z hz (.inl (by omega))
    · exact absurd o2 (Nat.not_lt_zero _)
  gen := fun j z hz => by
    rcases B.gen j z hz with q | ⟨i2, b2, x2, q1, q2, q3, q4⟩
    · exact .inl q
    · exact .inr ⟨i2, b2, x2, q1, .inl (by rcases q2 with q2 | q2 <;> omega), q3, q4⟩
  nod := B.nod
  len := B.len
end
/-! ### few pairs -/
theorem nodup_few : ∀ (m : Nat) (l : List Nat), l.Nodup → (∀ x ∈ l, x < m) → l.length ≤ m
  | 0, [], _, _ => Nat.le_refl _
  | 0, x :: _, _, h => absurd (h x List.mem_cons_self) (Nat.not_lt_zero _)
  | m + 1, l, hn, h => by
    have ih := nodup_few m (l.erase m) (hn.erase m) fun x hx => by
      have h1 := (List.Nodup.mem_erase_iff hn).mp hx
      have h2 := h x h1.2
      have h3 := h1.1
      omega
    have e := List.length_erase (a := m) (l := l)
    split at e <;> omega
theorem Bfs.few {M N : Mach} {st : Pr} {L : List Nd} {pl a : Nat} (k : Kin M N) (B : Bfs M N st L pl a) : L.length ≤ 900 := by
  have h := nodup_few 900 (L.map fun x => x.pr.1.toNat * 30 + x.pr.2.toNat) ?_ ?_
  · rw [List.length_map] at h
    exact h
  · have e : L.map (fun x => x.pr.1.toNat * 30 + x.pr.2.toNat) = (L.map (·.pr)).map fun p : Pr => p.1.toNat * 30 + p.2.toNat := by
      rw [List.map_map]
      rfl
    rw [e]
    refine List.Pairwise.map _ ?_ (List.Pairwise.and_mem.mp B.nod)
    rintro p q ⟨hp, hq, n⟩ z
    obtain ⟨x, hx, rfl⟩ := List.mem_map.mp hp
    obtain ⟨y, hy, rfl⟩ := List.mem_map.mp hq
    have i1 := (B.run x hx).2.2
    have i2 := (B.run y hy).2.2
    have := k.gn.s30
    have a1 := i1.1.1
    have a2 := i1.2.1
    have a3 := i1.2.2
    have b1 := i2.1.1
    have b2 := i2.2.1
    have b3 := i2.2.2
    exact n (Prod.ext (by omega) (by omega))
  · intro v hv
    obtain ⟨x, hx, rfl⟩ := List.mem_map.mp hv
    have i1 := (B.run x hx).2.2
    have := k.gn.s30
    have := k.gm.s30
    have a1 := i1.1.1
    have a4 := i1.1.2
    have a2 := i1.2.1
    have a3 := i1.2.2
    show x.pr.1.toNat * 30 + x.pr.2.toNat < 900
    omega
end Mz
namespace Mz
theorem part_or {M N : Mach} {p : Pr} : (∃ u, Part M N p u) ∨ NoPart M N p := by
  by_cases h : NoPart M N p
  · exact .inr h
  · refine .inl ?_
    have key : ∀ n : Nat, (∃ v, Lt M.ls v ∧ Bad M N (runP M N p v) ∧ code v ≤ n) → ∃ u, Part M N p u := by
      intro n
      induction n with
      | zero =>
        rintro ⟨v, h1, h2, h3⟩
        exact ⟨v, h1, h2, fun u _ _ => by omega⟩
      | succ n ih =>
        rintro ⟨v, h1, h2, h3⟩
        by_cases c : ∃ u, Lt M.ls u ∧ Bad M N (runP M N p u) ∧ code u ≤ n
        · exact ih c
        · exact ⟨v, h1, h2, fun u a b => Nat.le_of_not_lt fun z => c ⟨u, a, b, by omega⟩⟩
    have : ∃ v, Lt M.ls v ∧ Bad M N (runP M N p v) := Classical.byContradiction fun z => h fun v a b => z ⟨v, a, b⟩
    obtain ⟨v, a, b⟩ := this
    exact key _ ⟨v, a, b, Nat.le_refl _⟩
end Mz

set_option Elab.async false
set_option linter.all false
set_option maxRecDepth 100000
set_option maxHeartbeats 4000000
/-! a walk over a tuple while an error is handled -/
namespace Mz
open PySem PySem.Spec PyProof.Rows L2 L2H HotX
theorem next_tuple_end_hot {prog : Program} {w : World} {A : Around} {E : Value → Shared → Prop} {s : Shared} {it t x1 : Addr} {i : Nat} {items : Array Value} {Q : Option Value → Shared → Prop} (hot : HotAt A x1 s.heap)
    (hit : s.heap.IsTupleIter it t i) (ht : s.heap.IsTuple t items) (hx : items[i]? = none) (hQ : ∀ h', Heap.ExtBut it s.heap h' → Q none { s with heap := h' }) : wpAny (model prog w) A (pyNext (.ref it)) Q E s := by
  obtain ⟨o, ho, hc, hd⟩ := id hit
  obtain ⟨ol, hol, _, nl, hdl⟩ := ht
  obtain ⟨hh, o1, vs1, h1, d1, c1⟩ := hot
  have tT : s.TypeIs (.ref it) "tuple_iterator" := hit.typeIs
  unfold pyNext
  refine wpAny_bind (wpAny_attempt (wpAny_callSpecial?_slot (name := Str.ofString "__next__") tT F.slot_tuple_iterator_next (wpAny_call_entry F.slot_tuple_iterator_next tT F.entry_tuple_iterator_next ?_ (F.args_tuple_iterator_next_1 _))))
  show wpAny _ _ (field (.ref it) 0 >>= fun v => _) _ _ s
  refine wpAny_bind (wpAny_field ho hd (x := .ref t) rfl ?_)
  show wpAny _ _ (ite ((Value.ref t == Value.none) = true) _ _) _ _ s
  rw [if_neg (fun z : (Value.ref t == Value.none) = true => Bool.false_ne_true z)]
  show wpAny _ _ (field (.ref it) 1 >>= fun v => _) _ _ s
  refine wpAny_bind (wpAny_field ho hd (x := .int i 0) rfl ?_)
  show wpAny _ _ (seqItems? (.ref t) >>= fun v => _) _ _ s
  refine wpAny_bind (wpAny_seqItems hol hdl ?_)
  simp only [Int.toNat_natCast, hx]
  have apart : x1 ≠ it := fun z => by
    rw [z, ho] at h1
    cases h1
    rw [hd] at d1
    injection d1 with d1
    rw [← d1] at c1
    cases c1
  refine wpAny_bind (wpAny_rule (wpAny_bind (wpAny_setField ho hd (by simp) ?_)))
  show wpAny _ _ ((newExc (.type "StopIteration") []) >>= fun v => _) _ _ _
  refine wpAny_bind ?_
  simp only [newExc, newTuple]
  refine wpAny_bind (wpAny_newObj_type ?_ (by size_fits))
  refine wpAny_bind (m := firstArgMember _ _) (wpAny_of_eq (a := Value.none) (by first | rfl | (simp only [firstArgMember] <;> rfl)) ?_)
  refine wpAny_newObj_type ?_ (by size_fits)
  have h1b : (s.heap.update it (Obj.mapFields (·.setIfInBounds 0 Value.none))).get? x1 = some o1 := by
    rw [Heap.get?_update_other _ _ (fun z => apart z.symm)]
    exact h1
  refine raiseNew_hot ⟨hh, o1, vs1, Heap.get?_push_of_some _ (Heap.get?_push_of_some _ h1b), d1, c1⟩ (Nat.ne_of_lt (Heap.lt_size (Heap.get?_push_of_some _ h1b)))
    (Heap.get?_push_size _ rfl) rfl (by first | (simp; done) | (simp; omega) | (simp only [Array.size_append]; simp; omega)) ?_
  refine wpAny_bind (wpAny_isInstance (T := "StopIteration") (b := true) ⟨_, (Heap.get?_update_self _ (Heap.get?_push_size _ rfl) rfl), rfl⟩ isSubtype_stop ?_)
  refine wpAny_pure (hQ _ fun b u nb e => ?_)
  have e1 : (s.heap.update it (Obj.mapFields (·.setIfInBounds 0 Value.none))).get? b = some u := by
    rw [Heap.get?_update_other _ _ (fun z => nb z.symm)]
    exact e
  rw [Heap.get?_update_other _ _ (fun z => Nat.lt_irrefl _ (show _ < _ by have := Heap.lt_size (Heap.get?_push_of_some { cls := Value.type "tuple", data := Data.seq #[] } e1); rw [← z] at this; exact this))]
  exact Heap.get?_push_of_some _ (Heap.get?_push_of_some _ e1)
theorem turn_tupleH {P : Program} {w : World} {K : PySem.W.Frag} {tg : Expr} (a it : Addr) : TurnH P w K tg (Itt K a) [it] it (fun i h => h.IsTupleIter it a i) where
  mem := List.mem_singleton.mpr rfl
  obj := fun i h ⟨o, e, c, d⟩ b hb => by
    rw [List.mem_singleton.mp hb]
    exact ⟨o, e, fun v z => by rw [d] at z; cases z⟩
  keep := fun i h h' st k => st.at fun o e => k it (List.mem_singleton.mpr rfl) o e
  item := by
    rintro X rfl rfl rfl hc i pins s σ H E I hf st ⟨xs, x, hq, hx⟩
    obtain ⟨its, rv, p, _⟩ := I.tuple hq
    obtain ⟨u, hu, ru⟩ := rv.get hx
    obtain ⟨f0, f1, f2, f3, f4, f5⟩ := hf it (List.mem_singleton.mpr rfl)
    have tp : s.heap.IsTuple a its.toArray := p
    refine wpAny_pyNext_tuple_item st tp (x := u) (by simpa using hu) fun h' st' sb => ?_
    have J : Inv X pins σ H { s with heap := h' } := I.turned (t' := s.toks) (fun b o hb e => (sb.2 b hb).trans e) f0 f1 f3 f4 f5
    obtain ⟨o, e, c, d⟩ := id st'
    refine ⟨u, rfl, go_of (s := { s with heap := h' }) e c d (by decide) ⟨x, H, J, ru, ⟨rfl, fun ys hy => ?_⟩, st', fun b hb => (hf b hb).1⟩⟩
    rw [I.tuple_inj hy hq]
    exact hx
  done := by
    rintro X rfl rfl rfl hc i pins s σ H E I hf st ⟨xs, hq, hx⟩
    obtain ⟨its, rv, p, _⟩ := I.tuple hq
    obtain ⟨f0, f1, f2, f3, f4, f5⟩ := hf it (List.mem_singleton.mpr rfl)
    have hl := rv.length
    obtain ⟨x1, hot⟩ := hc.at I
    have tp : s.heap.IsTuple a its.toArray := p
    exact next_tuple_end_hot hot st tp (by simp; omega) fun h' eb => ⟨rfl, I.turned (t' := s.toks) (fun b o hb e => eb b o hb e) f0 f1 f3 f4 f5⟩
  self := fun _ _ _ _ _ st h => wpAny_pyIter_tupleiter st h
theorem pi_tupH {X : Cx} {tg l : Expr} {tl : TE} (hl : PE X l tl) : PIH X tg l (iTup X.K tl) := by
  refine ⟨fun pins s σ H R I h => thn (hl.run pins s σ H _ I h) fun v s1 ⟨x, H1, I1, r1, a, e, ⟨xs, hq⟩, q⟩ => ?_⟩
  subst e
  cases r1
  obtain ⟨its, rv, p, _⟩ := I1.tuple hq
  have tp : s1.heap.IsTuple a its.toArray := p
  refine wpAny_pyIter_tuple tp ⟨s1.heap.objs.size, [s1.heap.objs.size], _, _, H1, rfl, I1.kept (t' := s1.toks) (fun b o e => Heap.get?_push_of_some _ e), turn_tupleH a _, ⟨_, Heap.get?_push_size _ rfl, rfl, rfl⟩, fun b hb => ?_, q⟩
  rw [List.mem_singleton.mp hb]
  exact I1.fpOk (Nat.le_refl _) (I1.hok.fresh (Nat.le_refl _))
end Mz

set_option Elab.async false
set_option linter.all false
set_option maxRecDepth 100000
set_option maxHeartbeats 4000000
/-! the order of words: (len(u), u) < (len(v), v) -/
namespace Mz
open PySem PySem.Spec PyProof.Rows L2
def rLtD (K : PySem.W.Frag) : R2 := fun x y H Q => ∃ d e, Dp K H x d ∧ Dp K H y e ∧ W.alike d e = true ∧ d ≠ .none ∧ min d.depth e.depth ≤ 64 ∧ Q (.bl (W.dataLt d e)) H
theorem op_ltD {X : Cx} (hu : X.A.units + 64 < cLine) : OpR X (compareOp .Lt) (rLtD X.K) := by
  rintro pins s σ H x y v u Q I rx ry ⟨d, e, hd, he, al, hn, dep, q⟩
  obtain ⟨as, r1⟩ := Dp.reads I d x v hd rx
  obtain ⟨bs, r2⟩ := Dp.reads I e y u he ry
  exact W.rcLt_alike d e X.A s v u as bs r1 r2 al hn (by omega) X.prog X.w _ _ ⟨.bl _, H, I, rfl, q⟩
def wordD (ns : List Int) : PyData := .tuple [.int ns.length, .list (ns.map PyData.int)]
theorem alike_ints : ∀ ns ms : List Int, W.alikeAll (ns.map PyData.int) (ms.map PyData.int) = true
  | [], _ => by simp [W.alikeAll]
  | _ :: _, [] => by simp [W.alikeAll]
  | n :: ns, m :: ms => by
    simp only [List.map_cons, W.alikeAll, W.alike, Bool.true_and]
    exact alike_ints ns ms
theorem alike_word (ns ms : List Int) : W.alike (wordD ns) (wordD ms) = true := by
  simp only [wordD, W.alike, W.alikeAll, alike_ints, Bool.and_true]
theorem dp_ints {K : PySem.W.Frag} {H : Hp} : ∀ ns : List Int, DpAll K H (ns.map V.int) (ns.map PyData.int)
  | [] => .nil
  | n :: ns => .cons (.int n) (dp_ints ns)
end Mz
namespace Mz
open PySem PySem.Spec PyProof.Rows L2
theorem depth_ints : ∀ ns : List Int, PyData.depthAll (ns.map PyData.int) ≤ 1
  | [] => by simp [PyData.depthAll]
  | n :: ns => by
    have := depth_ints ns
    simp [PyData.depthAll, PyData.depth]
    omega
theorem depth_word (ns ms : List Int) : min (wordD ns).depth (wordD ms).depth ≤ 64 := by
  have h := depth_ints ns
  have e : (wordD ns).depth ≤ 5 := by
    simp [wordD, PyData.depth, PyData.depthAll]
    omega
  omega
/-- u comes before v -/
def wordLt (u v : List Int) : Bool := if u.length = v.length then HT.lexLt u v else decide (u.length < v.length)
theorem lex_eq {x : Int ⊕ List Nat} {r t : List (Int ⊕ List Nat)} : PyProof.Rows.lexLt itemOrd (x :: r) (x :: t) = PyProof.Rows.lexLt itemOrd r t := PySem.W.lex_pre [x] r t
theorem lex_self (l : List (Int ⊕ List Nat)) : PyProof.Rows.lexLt itemOrd l l = false := by
  have := PySem.W.lex_pre l [] []
  rw [List.append_nil] at this
  rw [this]
  rfl
theorem lex_ints : ∀ (ns ms : List Int) (l : List (Int ⊕ List Nat)), ns.length = ms.length → PyProof.Rows.lexLt itemOrd (PySem.W.keyToksAll (ns.map PyData.int) ++ l) (PySem.W.keyToksAll (ms.map PyData.int) ++ l) = HT.lexLt ns ms
  | [], [], l, _ => by
    rw [lex_self]
    rfl
  | [], _ :: _, _, h => by simp at h
  | _ :: _, [], _, h => by simp at h
  | n :: ns, m :: ms, l, h => by
    have ih := lex_ints ns ms l (by simpa using h)
    rw [List.map_cons, List.map_cons, PySem.W.toks_all_cons, PySem.W.toks_all_cons]
    simp only [PySem.W.keyToks, List.cons_append, List.nil_append]
    rw [lex_eq, HT.lexLt_cons]
    by_cases e : n = m
    · subst e
      rw [lex_eq, ih, if_pos rfl]
    · rw [lex_diff (by simpa using e), if_neg e]
      rfl
theorem dataLt_word (ns ms : List Int) : PySem.W.dataLt (wordD ns) (wordD ms) = wordLt ns ms := by
  unfold PySem.W.dataLt wordD wordLt
  simp only [PySem.W.keyToks, PySem.W.keyToksAll, List.cons_append, List.nil_append]
  rw [lex_eq]
  by_cases e : ns.length = ms.length
  · rw [if_pos e, e, lex_eq, lex_eq]
    exact lex_ints ns ms _ e
  · rw [if_neg e, lex_diff (by simpa using fun z => e (by omega))]
    show decide _ = decide _
    rw [decide_eq_decide]
    omega
end Mz

set_option Elab.async false
set_option linter.all false
set_option maxRecDepth 100000
set_option maxHeartbeats 4000000
/-! errors whose context is None; defs with a table of code objects; what stays beside a table -/
namespace Mz
open PySem PySem.Spec PyProof.Rows L2 L2H
theorem takesN {X : Cx} : L2N.Takes X (fun _ _ _ _ => False) := fun _ _ ⟨_, _, _, _, _, _, _, _, _, _, _, _, _, _, _, _, z⟩ => z.elim
theorem passN {X : Cx} : Passes (L2N.CX X.prog X.w) X E0 := fun _ _ _ _ _ _ _ ⟨_, _, _, _, _, _, _, _, _, _, _, _, z⟩ => z.elim
section
variable {X : Cx} {C : Addr} {bmB : List Value} {B newId initId : String}
/-- X(e, ..) for an own error class -/
theorem pmk_any {x : Str} {p pos : Pos} {e : Expr} {es : List Expr} {t : TA} (F : ExcBaseFacts B newId initId bmB) (q : PySem.W.excIn X.K C bmB newId = true) (gC : X.mg x = some (.ref C))
    (kC : PySem.W.keepIn X.K (.ref C) = true) (r : Raises X (.ref C)) (hg : Gl X x) (ha : PA X (e :: es) t) (hdb : (x == ("__debug__" : Str)) = false := by decide)
    (he : starEach (e :: es) X.env = (false, eval e X.env) :: starEach es X.env := by rfl) (hpl : (backTo pos (starEach es X.env)).any (·.1) = false := by rfl) :
    L2N.PMk X (.Call (.Name x p) (e :: es) [] pos) (fun σ H Q => t σ H fun vs H1 => vs.length ≤ sizeLine ∧ Q (.ref C) none H1) := by
  intro pins s σ H Q I h
  refine wpAny_Call_Name_kw (ld_glob I hg gC (PySem.W.callWith_K (h₀ := X.base) I.ok.mod.kin kC (thn (ha.run pos pins s σ H _ I h) fun us s1 ⟨vs, H1, I1, r1, hz, q1⟩ => ⟨I1.kIn, ?_⟩) he hpl) hdb)
  show wpAny _ _ (call (.ref C) us) _ _ _
  obtain ⟨bm, N, nm, qn, bs, hdct, sn, sub, ab, col, dd, k0, k1, k2, k3, k5, mN, hC, hN, hni, T⟩ := exc_obj I1.kIn q
  exact wpAny_call_exc_subT F T hC hN hni (fun h' e hm => L2N.mk_of I1 hm r q1 (I1.hok.gone hm.new)) (by rw [← r1.length]; exact hz)
end
section
variable {P : Program} {w : World} {K : PySem.W.Frag} {mg : Str → Option Value} {base : Heap}
/-- a def that may raise -/
theorem okN {x qual : Str} {st : Stmt} {f : Addr} {fd : FuncData} {N ps : List Str} {k : Nat} {sp : Sp} (F : Fun K x qual st f fd) (S : FnScope N ps (defScope st)) (len : ∀ vs H Q E, sp vs H Q E → vs.length = ps.length)
    (hbody : ∀ (cdv : Value) (A : Around) (outer : List Env) (s : Shared) (H : Hp) (vs : List V) (Q : VK) (E : XK), Room k (A.deeper (envOfC qual (defScope st) s.heap.objs.size f cdv)) → sp vs H Q E →
      ∃ t, PSs (cxOf (L2N.CX P w) P w K mg base N qual (defScope st) f cdv A outer s H E) (defBody st) t ∧ t { nx := fun _ H' => Q .non H', rt := Q } (start N vs) H) : FnOk P w K mg base (L2N.CX P w) (k + 1) f fd ps sp := by
  obtain ⟨oc, od, kV, doc, pm, an, cdv, ct, osl, rfl, lk, hcd⟩ := F.ex
  exact fn_of lk hcd S len fun A outer s H vs Q E hr hsp => hbody cdv A outer s H vs Q E hr hsp
/-- a def whose code object is known -/
theorem okC {x qual : Str} {st : Stmt} {f : Addr} {fd : FuncData} {N ps : List Str} {k : Nat} {sp : Sp} (F : Fun K x qual st f fd) (S : FnScope N ps (defScope st)) (len : ∀ vs H Q E, sp vs H Q E → vs.length = ps.length)
    (hbody : ∀ (A : Around) (outer : List Env) (s : Shared) (H : Hp) (vs : List V) (Q : VK) (E : XK), Room k (A.deeper (envOfC qual (defScope st) s.heap.objs.size f fd.code)) → sp vs H Q E →
      ∃ t, PSs (cxOf CX0 P w K mg base N qual (defScope st) f fd.code A outer s H E).nox (defBody st) t ∧ t { nx := fun _ H' => Q .non H', rt := Q } (start N vs) H) : FnOk P w K mg base CX0 (k + 1) f fd ps sp := by
  obtain ⟨oc, od, kV, doc, pm, an, cdv, ct, osl, rfl, lk, hcd⟩ := F.ex
  refine fn_of lk hcd S len fun A outer s H vs Q E hr hsp => ?_
  obtain ⟨t, h, q⟩ := hbody A outer s H vs Q E hr hsp
  exact ⟨t, h.nox, q⟩
/-- a def called while an error is handled -/
theorem okH {x qual : Str} {st : Stmt} {f : Addr} {fd : FuncData} {N ps : List Str} {k : Nat} {sp : Sp} (F : Fun K x qual st f fd) (S : FnScope N ps (defScope st)) (len : ∀ vs H Q E, sp vs H Q E → vs.length = ps.length)
    (hbody : ∀ (cdv : Value) (A : Around) (outer : List Env) (s : Shared) (H : Hp) (vs : List V) (Q : VK) (E : XK) (p : Addr × Obj), Hot1 A p → RoomH k (A.deeper (envOfC qual (defScope st) s.heap.objs.size f cdv)) → sp vs H Q E →
      ∃ t, PSs (cxH CX0 P w K mg base N qual (defScope st) f cdv A outer s H E p) (defBody st) t ∧ t { nx := fun _ H' => Q .non H', rt := Q } (start N vs) H) : FnH P w K mg base CX0 (k + 1) f fd ps sp := by
  obtain ⟨oc, od, kV, doc, pm, an, cdv, ct, osl, rfl, lk, hcd⟩ := F.ex
  exact fn_ofH lk hcd S len fun A outer s H vs Q E p hot hr hsp => hbody cdv A outer s H vs Q E p hot hr hsp
end
theorem hot_suite {X : Cx} {a : Addr} {oe : Obj} {pn : List (Addr × Obj)} {cls : Value} {d : Option Addr} (hz : L2N.Zn cls d oe) (hf : ∃ vs, oe.data = .fields vs) : HotC (X.suite a ((a, oe) :: pn)) := by
  obtain ⟨vs, e⟩ := hf
  exact ⟨(a, oe), ⟨rfl, vs, e, hz.2.2 vs e⟩, List.mem_cons_self⟩
/-! ### what stays as it was, but for the table at P -/
structure Kp (P : Addr) (H H' : Hp) : Prop where
  tab : GxR.TabG H' P
  keep : ∀ b o, b ≠ P → H b = some o → H' b = some o
theorem tab_ne {H : Hp} {P b : Addr} {o : HO} (t : GxR.TabG H P) (e : H b = some o) (h : ∀ ps, o ≠ .tbl ps) : b ≠ P := fun z => by
  obtain ⟨ps, hP, _⟩ := t
  rw [z, hP] at e
  exact h ps (Option.some.inj e).symm
theorem Kp.of {P : Addr} {H H' : Hp} (t : GxR.TabG H P) (s : Same H H') : Kp P H H' := by
  obtain ⟨ps, hP, ht⟩ := t
  exact ⟨⟨ps, s _ _ hP, ht⟩, fun b o _ e => s b o e⟩
theorem Kp.refl {P : Addr} {H : Hp} (t : GxR.TabG H P) : Kp P H H := ⟨t, fun _ _ _ e => e⟩
theorem Kp.trans {P : Addr} {H H1 H2 : Hp} (a : Kp P H H1) (b : Kp P H1 H2) : Kp P H H2 := ⟨b.tab, fun c o n e => b.keep c o n (a.keep c o n e)⟩
theorem Kp.andS {P : Addr} {H H1 H2 : Hp} (a : Kp P H H1) (b : Same H1 H2) : Kp P H H2 := a.trans (.of a.tab b)
theorem Kp.ofTabbed {P : Addr} {H H' : Hp} (t : GxR.Tabbed P H H') : Kp P H H' := ⟨t.1, fun b o n e => by rw [t.2 b n]; exact e⟩
theorem Kp.free {P : Addr} {H H' : Hp} (k : Kp P H H') {b : Addr} (e : H' b = none) : H b = none := by
  cases q : H b with
  | none => rfl
  | some o =>
    have n : b ≠ P := fun z => by
      obtain ⟨ps, hP, _⟩ := k.tab
      rw [z, hP] at e
      cases e
    rw [k.keep b o n q] at e
    cases e
theorem Kp.seq {P : Addr} {H H' : Hp} {K : PySem.W.Frag} {a : Addr} {xs : List V} (t : GxR.TabG H P) (k : Kp P H H') (h : SqL K H a xs) : SqL K H' a xs := by
  rcases h with (h | ⟨o, h⟩) | h
  · exact .inl (.inl (k.keep _ _ (tab_ne t h (fun ps z => by cases z)) h))
  · exact .inl (.inr ⟨o, k.keep _ _ (tab_ne t h (fun ps z => by cases z)) h⟩)
  · exact .inr h
theorem Kp.tup {P : Addr} {H H' : Hp} {a : Addr} {xs : List V} (t : GxR.TabG H P) (k : Kp P H H') (h : H a = some (.tup xs)) : H' a = some (.tup xs) := k.keep _ _ (tab_ne t h (fun ps z => by cases z)) h
theorem Kp.lst {P : Addr} {H H' : Hp} {a : Addr} {xs : List V} (t : GxR.TabG H P) (k : Kp P H H') (h : H a = some (.lst xs)) : H' a = some (.lst xs) := k.keep _ _ (tab_ne t h (fun ps z => by cases z)) h
theorem Kp.mat {P : Addr} {H H' : Hp} {m mv ou : Addr} {M : Mach} {rs : List Addr} (t : GxR.TabG H P) (k : Kp P H H') (h : MAt H m M mv ou rs) : MAt H' m M mv ou rs :=
  ⟨k.tup t h.top, k.tup t h.mv, k.tup t h.ou, h.len, fun i r w a b => k.tup t (h.row i r w a b)⟩
theorem Kp.ma {P : Addr} {H H' : Hp} {m : Addr} {M : Mach} (t : GxR.TabG H P) (k : Kp P H H') (h : MA H m M) : MA H' m M := by
  obtain ⟨mv, ou, rs, h⟩ := h
  exact ⟨mv, ou, rs, k.mat t h⟩
/-- a list or a tuple of ints -/
def Ints (K : PySem.W.Frag) (H : Hp) (a : Addr) (ns : List Int) : Prop := SqL K H a (ns.map V.int) ∨ SqT K H a (ns.map V.int)
def belowB (ns : List Int) (L : Int) : Bool := ns.all fun n => decide (0 ≤ n) && decide (n < L)
theorem below_iff {ns : List Int} {L : Int} : belowB ns L = true ↔ Lt L ns := by
  unfold belowB Lt
  rw [List.all_eq_true]
  constructor
  · intro h z hz
    have := h z hz
    simpa using this
  · intro h z hz
    simpa using h z hz
end Mz
namespace Mz
open PySem PySem.Spec PyProof.Rows L2
/-! ### f'..': its length, part by part -/
theorem js_str {z : Str} {ts : List TE} {acc : Str} {σ : L2.St} {H : Hp} {Q : Str → Hp → Prop} {n : Nat} (ha : acc.length ≤ n) (hz : z.length ≤ 100) (hn : n ≤ 1000000) (k : (acc ++ z).length ≤ n + 100 → tJs ts (acc ++ z) σ H Q) :
    tJs (tC (.str z) :: ts) acc σ H Q := by
  have e : (acc ++ z).length ≤ n + 100 := by
    rw [PySem.Str.length_append]
    omega
  refine ⟨z, rfl, ?_, k e⟩
  rw [sizeLine_eq]
  omega
theorem js_int {te : TE} {ts : List TE} {acc : Str} {σ : L2.St} {H : Hp} {Q : Str → Hp → Prop} {n : Nat} (ha : acc.length ≤ n) (hn : n ≤ 1000000)
    (k : te σ H fun x H1 => ∃ i : Int, x = .int i ∧ i.natAbs.log2 < 1920 ∧ ((acc ++ Str.ofString (toString i)).length ≤ n + 1921 → tJs ts (acc ++ Str.ofString (toString i)) σ H1 Q)) (mono : ∀ {Q1 Q2 : VK}, (∀ x H1, Q1 x H1 → Q2 x H1) → te σ H Q1 → te σ H Q2) :
    tJs (tFmt te :: ts) acc σ H Q := by
  refine mono (fun x H1 ⟨i, e, hi, q⟩ => ?_) k
  have l := int_text_len_1921 hi
  have e2 : (acc ++ Str.ofString (toString i)).length ≤ n + 1921 := by
    rw [PySem.Str.length_append]
    omega
  refine .inr ⟨i, e, hi, _, rfl, ?_, q e2⟩
  rw [sizeLine_eq]
  show (acc ++ Str.ofString (toString i)).length ≤ _
  omega
theorem log_small {i : Int} (h : i.natAbs < 2 ^ 64) : i.natAbs.log2 < 1920 := by
  by_cases h0 : i.natAbs = 0
  · rw [h0]
    decide
  · have := (Nat.log2_lt h0).mpr h
    omega
end Mz

set_option Elab.async false
set_option linter.all false
set_option maxRecDepth 100000
set_option maxHeartbeats 4000000
/-! isinstance: the error in hand against a builtin class; small facts of builtin classes -/
namespace Mz
open PySem PySem.Spec PyProof.Rows L2
def rIsXV (K : PySem.W.Frag) (a : Addr) (cls : Value) (d : Option Addr) : List V → Hp → VK → Prop := fun xs H Q =>
  ∃ (D : Addr) (c : V) (u : Value) (b : Bool), cls = .ref D ∧ d = none ∧ ExcC K D ∧ xs = [.ref a, c] ∧ ClsV c u ∧ PySem.W.kitOne K (.ref D) u = some b ∧ Q (.bl b) H
theorem call_isXV {X : Cx} {a : Addr} {cls : Value} {d : Option Addr} {oe : Obj} {pn : List (Addr × Obj)} (hz : Zc cls d oe) (hf : ∃ vs, oe.data = .fields vs) :
    CallR (X.suite a ((a, oe) :: pn)) (.builtin "isinstance") (rIsXV X.K a cls d) := by
  rintro pins s σ H xs us Q I r ⟨D, c, u, b, rfl, rfl, ec, rfl, k, hk, q⟩
  exact call_isE ec hz hf pins s σ H _ us Q I r ⟨c, u, b, rfl, fun w r => k.eq r, hk, q⟩
theorem kit_ty {K : PySem.W.Frag} {D : Addr} {n : String} {b : Bool} (h : PySem.W.subIn K (.ref D) (.type n) = some b) (hm : PySem.W.kitMeta n = true := by decide +kernel) : PySem.W.kitOne K (.ref D) (.type n) = some b := by
  unfold PySem.W.kitOne
  rw [if_neg (by exact fun z => nomatch (beq_iff_eq.mp z : Value.ref D = Value.type n))]
  show (if PySem.W.kitMeta n = true then PySem.W.subIn K (.ref D) (.type n) else none) = some b
  rw [if_pos hm]
  exact h
/-- isinstance of an int, a bool, a list -/
theorem kit_ints {K : PySem.W.Frag} : PySem.W.kitOne K (.type "int") (.type "int") = some true := if_pos (beq_self_eq_true _)
theorem kit_bools {K : PySem.W.Frag} : PySem.W.kitOne K (.type "bool") (.type "bool") = some true := if_pos (beq_self_eq_true _)
theorem kit_lists {K : PySem.W.Frag} : PySem.W.kitOne K (.type "list") (.type "list") = some true := if_pos (beq_self_eq_true _)
theorem kit_int_bool {K : PySem.W.Frag} : PySem.W.kitOne K (.type "int") (.type "bool") = some false := by
  unfold PySem.W.kitOne
  rw [if_neg (by decide)]
  show (if PySem.W.kitMeta "bool" = true then PySem.W.subIn K (.type "int") (.type "bool") else none) = some false
  rw [if_pos (by decide +kernel)]
  show (fastBuiltinMro "int").map (·.contains (Value.type "bool")) = some false
  decide +kernel
end Mz

set_option Elab.async false
set_option linter.all false
set_option maxRecDepth 100000
set_option maxHeartbeats 4000000
/-! a machine under change: a list of lists and a list, all new -/
namespace Mz
open PySem PySem.Spec PyProof.Rows L2
theorem ps_weak {X : Cx} {st : Stmt} {t t' : TS} (h : PS X st t) (k : ∀ D σ H, t' D σ H → t D σ H) : PS X st t' := ⟨fun pins s σ H D I q => h.run pins s σ H D I (k D σ H q)⟩
theorem blkOk_at {N N' : List Str} {sc sc' scope : Scope} {own : List (Str × Nat)} (h : BlkOk N sc scope own) (h1 : N = N') (h2 : sc = sc') : BlkOk N' sc' scope own := by
  subst h1 h2
  exact h
def rLof (K : PySem.W.Frag) : List V → Hp → VK → Prop := fun xs H Q => ∃ p ys, xs = [.ref p] ∧ (SqL K H p ys ∨ SqT K H p ys) ∧ ∀ l, H l = none → Q (.ref l) (upd H l (.lst ys))
theorem call_lof {X : Cx} : CallR X (.type "list") (rLof X.K) := call_list_of
def rTof (K : PySem.W.Frag) : List V → Hp → VK → Prop := fun xs H Q => ∃ p ys, xs = [.ref p] ∧ ((SqL K H p ys ∧ ∀ l, H l = none → Q (.ref l) (upd H l (.tup ys))) ∨ (SqT K H p ys ∧ Q (.ref p) H))
theorem call_tof {X : Cx} : CallR X (.type "tuple") (rTof X.K) := call_tuple_of
structure Mut (H H' : Hp) (mvl oul : Addr) (rs : List Addr) (os : List Int) : Prop where
  same : Same H H'
  fm : H mvl = none
  fo : H oul = none
  ne : mvl ≠ oul
  mv : H' mvl = some (.lst (rs.map V.ref))
  ou : H' oul = some (.lst (os.map V.int))
  row : ∀ r ∈ rs, H r = none ∧ r ≠ mvl ∧ r ≠ oul ∧ ∃ w : List Int, w.length ≤ 5 ∧ H' r = some (.lst (w.map V.int))
  rl : rs.length ≤ 31
  ol : os.length ≤ 31
section
variable {H H' H2 : Hp} {mvl oul : Addr} {rs : List Addr} {os : List Int}
theorem Mut.on (m : Mut H H' mvl oul rs os) (s : Same H' H2) : Mut H H2 mvl oul rs os :=
  ⟨m.same.trans s, m.fm, m.fo, m.ne, s _ _ m.mv, s _ _ m.ou, fun r hr => by
    obtain ⟨a, b, c, w, lw, e⟩ := m.row r hr
    exact ⟨a, b, c, w, lw, s _ _ e⟩, m.rl, m.ol⟩
theorem Mut.new (m : Mut H H' mvl oul rs os) {p : Addr} (hp : H' p = none) (o : HO) : Mut H (upd H' p o) mvl oul rs os := m.on (same_upd (Same.refl _) hp)
/-- a row's content -/
theorem Mut.setRow (m : Mut H H' mvl oul rs os) {r : Addr} (hr : r ∈ rs) {w : List Int} (lw : w.length ≤ 5) : Mut H (upd H' r (.lst (w.map V.int))) mvl oul rs os := by
  obtain ⟨a, b, c, _, _, _⟩ := m.row r hr
  refine ⟨same_set m.same a, m.fm, m.fo, m.ne, by rw [upd_ne b.symm]; exact m.mv, by rw [upd_ne c.symm]; exact m.ou, fun x hx => ?_, m.rl, m.ol⟩
  obtain ⟨a2, b2, c2, w2, l2, e2⟩ := m.row x hx
  refine ⟨a2, b2, c2, ?_⟩
  by_cases z : x = r
  · subst z
    exact ⟨w, lw, upd_same⟩
  · exact ⟨w2, l2, by rw [upd_ne z]; exact e2⟩
theorem Mut.setOut (m : Mut H H' mvl oul rs os) {os2 : List Int} (l : os2.length ≤ 31) : Mut H (upd H' oul (.lst (os2.map V.int))) mvl oul rs os2 := by
  refine ⟨same_set m.same m.fo, m.fm, m.fo, m.ne, by rw [upd_ne m.ne]; exact m.mv, upd_same, fun x hx => ?_, m.rl, l⟩
  obtain ⟨a2, b2, c2, w2, l2, e2⟩ := m.row x hx
  exact ⟨a2, b2, c2, w2, l2, by rw [upd_ne c2]; exact e2⟩
/-- the list of rows is another one -/
theorem Mut.setMv (m : Mut H H' mvl oul rs os) {rs2 : List Addr} (l : rs2.length ≤ 31) (hrs : ∀ r ∈ rs2, r ∈ rs ∨ (H r = none ∧ r ≠ mvl ∧ r ≠ oul ∧ ∃ w : List Int, w.length ≤ 5 ∧ H' r = some (.lst (w.map V.int)))) :
    Mut H (upd H' mvl (.lst (rs2.map V.ref))) mvl oul rs2 os := by
  refine ⟨same_set m.same m.fm, m.fm, m.fo, m.ne, upd_same, by rw [upd_ne m.ne.symm]; exact m.ou, fun x hx => ?_, l, m.ol⟩
  obtain ⟨a2, b2, c2, w2, l2, e2⟩ := (hrs x hx).elim (m.row x) id
  exact ⟨a2, b2, c2, w2, l2, by rw [upd_ne b2]; exact e2⟩
theorem ne_some {a b : Addr} {o : HO} (h : H' a = none) (e : H' b = some o) : b ≠ a := fun z => by
  rw [z, h] at e
  cases e
/-- a new list of outputs -/
theorem Mut.newOut (m : Mut H H' mvl oul rs os) {p : Addr} (hp : H' p = none) {os2 : List Int} (l : os2.length ≤ 31) : Mut H (upd H' p (.lst (os2.map V.int))) mvl p rs os2 := by
  have k := m.new hp (.lst (os2.map V.int))
  refine ⟨k.same, m.fm, m.same.free hp, ne_some hp m.mv, k.mv, upd_same, fun x hx => ?_, m.rl, l⟩
  obtain ⟨a2, b2, c2, w2, l2, e2⟩ := k.row x hx
  obtain ⟨_, _, _, w3, _, e3⟩ := m.row x hx
  exact ⟨a2, b2, ne_some hp e3, w2, l2, e2⟩
/-- a new list of rows -/
theorem Mut.newMv (m : Mut H H' mvl oul rs os) {p : Addr} (hp : H' p = none) {rs2 : List Addr} (l : rs2.length ≤ 31) (hrs : ∀ r ∈ rs2, r ∈ rs) : Mut H (upd H' p (.lst (rs2.map V.ref))) p oul rs2 os := by
  have k := m.new hp (.lst (rs2.map V.ref))
  refine ⟨k.same, m.same.free hp, m.fo, (ne_some hp m.ou).symm, upd_same, k.ou, fun x hx => ?_, l, m.ol⟩
  obtain ⟨a2, b2, c2, w2, l2, e2⟩ := k.row x (hrs x hx)
  obtain ⟨_, _, _, w3, _, e3⟩ := m.row x (hrs x hx)
  exact ⟨a2, ne_some hp e3, c2, w2, l2, e2⟩
end
end Mz

set_option Elab.async false
set_option linter.all false
set_option maxRecDepth 100000
set_option maxHeartbeats 4000000
/-! == and != of lists of ints -/
namespace Mz
open PySem PySem.Spec PyProof.Rows L2
theorem eqv_ints : ∀ ns ms : List Int, PyData.eqvAll (ns.map PyData.int) (ms.map PyData.int) = decide (ns = ms)
  | [], [] => by simp [PyData.eqvAll]
  | [], _ :: _ => by simp [PyData.eqvAll]
  | _ :: _, [] => by simp [PyData.eqvAll]
  | n :: ns, m :: ms => by
    rw [List.map_cons, List.map_cons, PyData.eqvAll, eqv_ints ns ms, PyData.eqv]
    by_cases h : n = m
    · subst h
      by_cases h2 : ns = ms <;> simp [h2]
    · simp [h]
theorem eqv_lists (ns ms : List Int) : PyData.eqv (.list (ns.map PyData.int)) (.list (ms.map PyData.int)) = decide (ns = ms) := by
  rw [PyData.eqv]
  exact eqv_ints ns ms
section
variable {K : PySem.W.Frag} {H : Hp} {a b : Addr} {ns ms : List Int} {Q : VK}
theorem eq_lists (h1 : SqL K H a (ns.map V.int)) (h2 : SqL K H b (ms.map V.int)) (q : Q (.bl (decide (ns = ms))) H) : rEqD K (.ref a) (.ref b) H Q :=
  ⟨_, _, .lst h1 (dp_ints ns), .lst h2 (dp_ints ms), PySem.W.shaped_ints ns, PySem.W.shaped_ints ms, by rw [eqv_lists]; exact q⟩
theorem ne_lists (h1 : SqL K H a (ns.map V.int)) (h2 : SqL K H b (ms.map V.int)) (q : Q (.bl (!decide (ns = ms))) H) : rNeD K (.ref a) (.ref b) H Q :=
  ⟨_, _, .lst h1 (dp_ints ns), .lst h2 (dp_ints ms), PySem.W.shaped_ints ns, PySem.W.shaped_ints ms, by rw [eqv_lists]; exact q⟩
end
end Mz

set_option Elab.async false
set_option linter.all false
set_option maxRecDepth 100000
set_option maxHeartbeats 4000000
/-! {k: v}, k a tuple -/
namespace Mz
open PySem PySem.Spec PyProof.Rows L2
def tDisp1T (tk tv : TE) : TE := fun σ H Q => ∀ p, H p = none → tk σ (upd H p (.dT [])) fun x H1 => tv σ H1 fun y H2 => ∃ (b : Addr) (k : List L2.Key), x = .ref b ∧ H2 b = some (.tup (k.map kV)) ∧ H2 p = some (.dT []) ∧ Q (.ref p) (upd H2 p (.dT [(k, y)]))
theorem pe_disp1T {X : Cx} {ke ve : Expr} {pos : Pos} {tk tv : TE} (hu : X.A.units + 1 < cLine) (hk : PE X ke tk) (hv : PE X ve tv) : PE X (.Dict [some ke] [ve] pos) (tDisp1T tk tv) := by
  refine ⟨fun pins s σ H Q I q => ?_⟩
  have hn := I.hok.fresh (Nat.le_refl s.heap.objs.size)
  have I1 := I.laid (a := s.heap.objs.size) (o := .dT []) (h' := s.heap.push { cls := .type "dict", data := .dict #[] }) (t' := s.toks) (fun _ _ q => Heap.get?_push_of_some _ q) (Nat.le_refl _) (dt_empty s.heap I.big)
  have hl : (pairTrees [some ke] [ve] X.env pos).length = 1 := pairTrees_length _ _ _ _ rfl rfl
  rw [arm_eval_Dict, zip_pairTrees [some ke] [ve] X.env pos rfl rfl, dictDisplay_pairs (pairTrees [some ke] [ve] X.env pos) (fun z => by rw [z] at hl; cases hl) (by omega)]
  refine wpAny_bind (wpAny_standAt (wpAny_bind (wpAny_subDictH (knd := tupleKind (mixKind X.prog X.w)) (Q := fun d s' => wpAny (model X.prog X.w) X.A (pure (Value.ref d)) (EP X pins σ Q) X.xe s') (show X.A.units < cLine by omega) (by omega) ?_)))
  refine pairTrees_cons_walk (thn (hk.run pins _ σ _ _ I1 (q _ hn)) fun u s1 ⟨x, H1, I2, rx, q1⟩ => thn (hv.run pins s1 σ H1 _ I2 q1) fun v s2 ⟨y, H2, I3, ry, b, k, ex, eb, ep, q2⟩ => ?_)
  subst ex
  obtain rfl : u = Value.ref b := rx
  obtain ⟨z, hd, xs, rel, dd⟩ := dt_of I3.hok ep
  cases rel
  refine pairTrees_nil_walk ⟨[(k, b, v)], ⟨rfl, rfl, key_of I3.hok eb, trivial⟩, dd, fun h' tk dd' hs => ?_⟩
  have e1 : storedAllH ([] : List (List L2.Key × Addr × Value)) [(k, b, v)] = [(k, b, v)] := rfl
  rw [e1] at dd'
  obtain ⟨o, es, ep2, hq, h2, h3, h4, _, h5⟩ := dd'
  refine wpAny_pure ⟨.ref s.heap.objs.size, _, d_write (t' := tk) (ob := .dT [(k, y)]) I3 (by rw [ep]; exact True.intro) hs ⟨o, hq⟩ ⟨?_, hd, [(k, b, v)], .cons ⟨rfl, ?_, ry⟩ .nil, o, es, ep2, hq, h2, h3, h4, h5⟩, rfl, q2⟩
  · rw [sizeLine_eq]
    show 1 ≤ _
    omega
  · have nb : b ≠ s.heap.objs.size := fun z => by
      rw [z, ep] at eb
      cases eb
    rw [upd_ne nb]
    exact eb
end Mz

set_option Elab.async false
set_option linter.all false
set_option maxRecDepth 100000
set_option maxHeartbeats 4000000
/-! the search by widths in the heap -/
namespace Mz
open PySem PySem.Spec PyProof.Rows L2
def kP (p : Pr) : List L2.Key := [.inl p.1, .inl p.2]
theorem kP_inj {p q : Pr} (h : kP p = kP q) : p = q := by
  unfold kP at h
  injection h with h1 h2
  injection h2 with h2 _
  injection h1 with h1
  injection h2 with h2
  exact Prod.ext h1 h2
def dictOf (L : List Nd) : List (List L2.Key × V) := L.map fun n => (kP n.pr, V.ref n.wa)
theorem val_find (p : Pr) : ∀ L : List Nd, (∃ n ∈ L, n.pr = p ∧ valV (dictOf L) (kP p) = some (.ref n.wa)) ∨ (valV (dictOf L) (kP p) = none ∧ ∀ n ∈ L, n.pr ≠ p)
  | [] => .inr ⟨rfl, fun n hn => absurd hn (by simp)⟩
  | n :: L => by
    by_cases h : n.pr = p
    · exact .inl ⟨n, List.mem_cons_self, h, valV_pos (p := (kP n.pr, V.ref n.wa)) (by rw [h])⟩
    · have e : valV (dictOf (n :: L)) (kP p) = valV (dictOf L) (kP p) := valV_neg (p := (kP n.pr, V.ref n.wa)) fun z => h (kP_inj z)
      rcases val_find p L with ⟨m, hm, h1, h2⟩ | ⟨h1, h2⟩
      · exact .inl ⟨m, List.mem_cons_of_mem _ hm, h1, by rw [e]; exact h2⟩
      · refine .inr ⟨by rw [e]; exact h1, fun m hm => ?_⟩
        rcases List.mem_cons.mp hm with z | z
        · rw [z]
          exact h
        · exact h2 m z
theorem nodup_inj {α β : Type} {f : α → β} : ∀ {L : List α}, (L.map f).Nodup → ∀ {x y : α}, x ∈ L → y ∈ L → f x = f y → x = y
  | [], _, _, _, hx, _, _ => absurd hx (by simp)
  | a :: L, h, x, y, hx, hy, e => by
    rw [List.map_cons, List.nodup_cons] at h
    rcases List.mem_cons.mp hx with hx | hx
    · rcases List.mem_cons.mp hy with hy | hy
      · rw [hx, hy]
      · rw [hx] at e
        exact absurd (List.mem_map.mpr ⟨y, hy, e.symm⟩) h.1
    · rcases List.mem_cons.mp hy with hy | hy
      · rw [hy] at e
        exact absurd (List.mem_map.mpr ⟨x, hx, e⟩) h.1
      · exact nodup_inj h.2 hx hy e
structure HB (H0 H' : Hp) (d qa : Addr) (L : List Nd) : Prop where
  same : Same H0 H'
  fd : H0 d = none
  fq : H0 qa = none
  dd : H' d = some (.dT (dictOf L))
  qq : H' qa = some (.lst (L.map fun n => V.ref n.ta))
  tp : ∀ n ∈ L, H' n.ta = some (.tup [.int n.pr.1, .int n.pr.2])
  wl : ∀ n ∈ L, H' n.wa = some (.lst (n.wd.map V.int)) ∧ n.wa ≠ qa
  wf : ∀ n ∈ L, H0 n.wa = none
section
variable {H0 H' H2 : Hp} {d qa : Addr} {L : List Nd}
theorem HB.on (B : HB H0 H' d qa L) (s : Same H' H2) : HB H0 H2 d qa L :=
  ⟨B.same.trans s, B.fd, B.fq, s _ _ B.dd, s _ _ B.qq, fun n hn => s _ _ (B.tp n hn), fun n hn => ⟨s _ _ (B.wl n hn).1, (B.wl n hn).2⟩, B.wf⟩
theorem HB.new (B : HB H0 H' d qa L) {p : Addr} (hp : H' p = none) (o : HO) : HB H0 (upd H' p o) d qa L := B.on (same_upd (Same.refl _) hp)
/-- a pair with its word goes into the dict, then into the queue -/
theorem HB.push (B : HB H0 H' d qa L) {n : Nd} (ht : H' n.ta = some (.tup [.int n.pr.1, .int n.pr.2])) (hw : H' n.wa = some (.lst (n.wd.map V.int))) (nq : n.wa ≠ qa) (nf : H0 n.wa = none) :
    HB H0 (upd (upd H' d (.dT (dictOf L ++ [(kP n.pr, .ref n.wa)]))) qa (.lst (L.map (fun n => V.ref n.ta) ++ [.ref n.ta]))) d qa (L ++ [n]) := by
  have dq : d ≠ qa := fun z => by
    have h1 := B.dd
    rw [z, B.qq] at h1
    cases h1
  have kt : ∀ {b : Addr} {xs : List V}, H' b = some (.tup xs) → upd (upd H' d (.dT (dictOf L ++ [(kP n.pr, .ref n.wa)]))) qa (.lst (L.map (fun n => V.ref n.ta) ++ [.ref n.ta])) b = some (.tup xs) := fun {b xs} e => by
    have b1 : b ≠ d := fun z => by
      rw [z, B.dd] at e
      cases e
    have b2 : b ≠ qa := fun z => by
      rw [z, B.qq] at e
      cases e
    rw [upd_ne b2, upd_ne b1]
    exact e
  have kl : ∀ {b : Addr} {xs : List V}, H' b = some (.lst xs) → b ≠ qa → upd (upd H' d (.dT (dictOf L ++ [(kP n.pr, .ref n.wa)]))) qa (.lst (L.map (fun n => V.ref n.ta) ++ [.ref n.ta])) b = some (.lst xs) := fun {b xs} e b2 => by
    have b1 : b ≠ d := fun z => by
      rw [z, B.dd] at e
      cases e
    rw [upd_ne b2, upd_ne b1]
    exact e
  refine ⟨same_set (same_set B.same B.fd) B.fq, B.fd, B.fq, ?_, ?_, fun m hm => ?_, fun m hm => ?_, fun m hm => ?_⟩
  · rw [upd_ne dq, upd_same]
    unfold dictOf
    rw [List.map_append]
    rfl
  · rw [upd_same, List.map_append]
    rfl
  · rcases List.mem_append.mp hm with e | e
    · exact kt (B.tp m e)
    · rw [List.mem_singleton.mp e]
      exact kt ht
  · rcases List.mem_append.mp hm with e | e
    · exact ⟨kl (B.wl m e).1 (B.wl m e).2, (B.wl m e).2⟩
    · rw [List.mem_singleton.mp e]
      exact ⟨kl hw nq, nq⟩
  · rcases List.mem_append.mp hm with e | e
    · exact B.wf m e
    · rw [List.mem_singleton.mp e]
      exact nf
end
end Mz

set_option Elab.async false
set_option linter.all false
set_option maxRecDepth 100000
set_option maxHeartbeats 4000000
/-! breadth first over one machine: the first word to each state -/
namespace Mz
open PySem PySem.Spec PyProof.Rows L2
def rLenK (K : PySem.W.Frag) : List V → Hp → VK → Prop := fun xs H Q => ∃ p ys, xs = [V.ref p] ∧ (SqL K H p ys ∨ SqT K H p ys) ∧ Q (V.int ((ys.length : Nat) : Int)) H
theorem call_lenK {X : Cx} : CallR X (Value.builtin "len") (rLenK X.K) := call_len_seq
abbrev Wn := Int × List Int
def addW (M : Mach) (s : Int) (w : List Int) (L : List Wn) (a : Int) : List Wn := if (L.any fun n => decide (n.1 = M.next s a)) = true then L else L ++ [(M.next s a, w ++ [a])]
def procW (M : Mach) (n : Wn) (L : List Wn) (j : Nat) : List Wn := (List.range j).foldl (fun L a => addW M n.1 n.2 L ((a : Nat) : Int)) L
theorem procW_zero {M : Mach} {n : Wn} {L : List Wn} : procW M n L 0 = L := rfl
theorem procW_succ {M : Mach} {n : Wn} {L : List Wn} {j : Nat} : procW M n L (j + 1) = addW M n.1 n.2 (procW M n L j) ((j : Nat) : Int) := by
  unfold procW
  rw [List.range_succ, List.foldl_append]
  rfl
def runW (M : Mach) : Nat → List Wn
  | 0 => [(0, [])]
  | i + 1 => match (runW M i)[i]? with
    | some n => procW M n (runW M i) M.ls.toNat
    | none => runW M i
theorem runW_some {M : Mach} {i : Nat} {n : Wn} (h : (runW M i)[i]? = some n) : runW M (i + 1) = procW M n (runW M i) M.ls.toNat := by
  show (match (runW M i)[i]? with
    | some n => procW M n (runW M i) M.ls.toNat
    | none => runW M i) = _
  rw [h]
theorem runW_none {M : Mach} {i : Nat} (h : (runW M i)[i]? = none) : runW M (i + 1) = runW M i := by
  show (match (runW M i)[i]? with
    | some n => procW M n (runW M i) M.ls.toNat
    | none => runW M i) = _
  rw [h]
structure Wok (M : Mach) (L : List Wn) : Prop where
  nod : (L.map (·.1)).Nodup
  st : ∀ n ∈ L, M.St n.1
  lt : ∀ n ∈ L, Lt M.ls n.2
  ln : ∀ (i : Nat) (n : Wn), L[i]? = some n → n.2.length ≤ i
  hd : L[0]? = some (0, [])
theorem addW_keep {M : Mach} {s : Int} {w : List Int} {L : List Wn} {a : Int} {i : Nat} {n : Wn} (h : L[i]? = some n) : (addW M s w L a)[i]? = some n := by
  unfold addW
  split
  · exact h
  · exact get_app1 h
theorem Wok.add {M : Mach} {L : List Wn} (k : Wok M L) (g : Good M) {i : Nat} {n : Wn} (h : L[i]? = some n) {a : Int} (h0 : 0 ≤ a) (h1 : a < M.ls) : Wok M (addW M n.1 n.2 L a) := by
  have hn := List.mem_of_getElem? h
  unfold addW
  split
  · exact k
  · rename_i c
    have c : ∀ m ∈ L, m.1 ≠ M.next n.1 a := fun m hm e => c (List.any_eq_true.mpr ⟨m, hm, decide_eq_true e⟩)
    refine ⟨?_, fun m hm => ?_, fun m hm => ?_, fun j m hm => ?_, get_app1 k.hd⟩
    · rw [List.map_append]
      refine List.nodup_append.mpr ⟨k.nod, by simp, fun p hp q hq e => ?_⟩
      obtain ⟨m, hm, rfl⟩ := List.mem_map.mp hp
      rw [List.map_singleton, List.mem_singleton] at hq
      exact c m hm (e.trans hq)
    · rcases List.mem_append.mp hm with z | z
      · exact k.st m z
      · rw [List.mem_singleton.mp z]
        exact (g.step (k.st n hn) h0 h1).1
    · rcases List.mem_append.mp hm with z | z
      · exact k.lt m z
      · rw [List.mem_singleton.mp z]
        exact lt_snoc.mpr ⟨k.lt n hn, h0, h1⟩
    · rcases get_app hm with z | ⟨e, z⟩
      · exact k.ln j m z
      · rw [z]
        show (n.2 ++ [a]).length ≤ j
        rw [List.length_append]
        have := k.ln i n h
        obtain ⟨lt, _⟩ := List.getElem?_eq_some_iff.mp h
        show n.2.length + 1 ≤ j
        omega
theorem Wok.proc {M : Mach} {L : List Wn} (k : Wok M L) (g : Good M) {i : Nat} {n : Wn} (h : L[i]? = some n) : ∀ j : Nat, (j : Int) ≤ M.ls → Wok M (procW M n L j) ∧ (procW M n L j)[i]? = some n
  | 0, _ => ⟨k, h⟩
  | j + 1, hj => by
    obtain ⟨a, b⟩ := Wok.proc k g h j (by omega)
    rw [procW_succ]
    exact ⟨a.add g b (by omega) (by omega), addW_keep b⟩
theorem Wok.start {M : Mach} (g : Good M) : Wok M [(0, [])] where
  nod := by simp
  st n hn := by
    rw [List.mem_singleton.mp hn]
    exact g.st0
  lt n hn := by
    rw [List.mem_singleton.mp hn]
    exact fun z hz => absurd hz (by simp)
  ln i n h := by
    obtain ⟨lt, e⟩ := List.getElem?_eq_some_iff.mp h
    have : i = 0 := by simpa using lt
    subst this
    rw [← e]
    exact Nat.le_refl 0
  hd := rfl
theorem wok_run {M : Mach} (g : Good M) : ∀ i, Wok M (runW M i)
  | 0 => Wok.start g
  | i + 1 => by
    have ih := wok_run g i
    cases h : (runW M i)[i]? with
    | none =>
      rw [runW_none h]
      exact ih
    | some n =>
      rw [runW_some h]
      have := g.l1
      exact (ih.proc g h M.ls.toNat (by omega)).1
theorem Wok.few {M : Mach} {L : List Wn} (k : Wok M L) : L.length ≤ M.rows.length := by
  have h := nodup_few M.rows.length (L.map fun n => n.1.toNat) ?_ ?_
  · rw [List.length_map] at h
    exact h
  · have e : (L.map fun n => n.1.toNat) = (L.map (·.1)).map Int.toNat := by rw [List.map_map]; rfl
    rw [e]
    refine List.pairwise_map.mpr (List.Pairwise.imp_of_mem (fun {a b} ha hb ne => ?_) k.nod)
    obtain ⟨x, hx, rfl⟩ := List.mem_map.mp ha
    obtain ⟨y, hy, rfl⟩ := List.mem_map.mp hb
    have := (k.st x hx).1
    have := (k.st y hy).1
    intro z
    exact ne (by omega)
  · intro x hx
    obtain ⟨n, hn, rfl⟩ := List.mem_map.mp hx
    have q := k.st n hn
    have q1 := q.1
    have q2 := q.2
    omega
theorem runW_end {M : Mach} {i : Nat} (h : (runW M i).length ≤ i) : ∀ d, runW M (i + d) = runW M i
  | 0 => rfl
  | d + 1 => by
    have ih := runW_end h d
    rw [show i + (d + 1) = (i + d) + 1 by omega, runW_none, ih]
    rw [ih]
    exact List.getElem?_eq_none (by omega)
def lastW (M : Mach) : List Wn := runW M M.rows.length
theorem runW_last {M : Mach} (g : Good M) {i : Nat} (h : (runW M i).length ≤ i) : runW M i = lastW M := by
  have f := (wok_run g M.rows.length).few
  unfold lastW
  rcases Nat.le_total i M.rows.length with z | z
  · have := runW_end h (M.rows.length - i)
    rw [← this, show i + (M.rows.length - i) = M.rows.length by omega]
  · have := runW_end f (i - M.rows.length)
    rw [← this, show M.rows.length + (i - M.rows.length) = i by omega]
def lookW (L : List Wn) (s : Int) : Option (List Int) := (L.find? fun n => decide (n.1 = s)).map (·.2)
/-- the first word to a state -/
def wayW (M : Mach) (s : Int) : Option (List Int) := lookW (lastW M) s
theorem lookW_mem {L : List Wn} {s : Int} {w : List Int} (h : lookW L s = some w) : (s, w) ∈ L := by
  unfold lookW at h
  cases e : L.find? (fun n => decide (n.1 = s)) with
  | none => rw [e] at h; cases h
  | some n =>
    rw [e] at h
    have h1 := List.find?_some e
    have h2 := List.mem_of_find?_eq_some e
    have : n = (s, w) := Prod.ext (by simpa using h1) (Option.some.inj h)
    rw [← this]
    exact h2
theorem way_ok {M : Mach} (g : Good M) {s : Int} {w : List Int} (h : wayW M s = some w) : Lt M.ls w ∧ w.length ≤ 30 := by
  have k := wok_run g M.rows.length
  have hm : (s, w) ∈ runW M M.rows.length := lookW_mem h
  refine ⟨k.lt _ hm, ?_⟩
  obtain ⟨j, hj, e⟩ := List.getElem_of_mem hm
  have := k.ln j (s, w) (by rw [List.getElem?_eq_getElem hj, e])
  have := k.few
  have := g.s30
  show w.length ≤ 30
  simp at *
  omega
theorem way_zero {M : Mach} (g : Good M) : wayW M 0 = some [] := by
  have k := wok_run g M.rows.length
  unfold wayW lastW lookW
  have h := k.hd
  cases e : runW M M.rows.length with
  | nil => rw [e] at h; cases h
  | cons n L =>
    rw [e] at h
    have : n = (0, []) := Option.some.inj h
    rw [this]
    rfl
/-! ### in the heap -/
structure Nb where
  st : Int
  wd : List Int
  wa : Addr
def bare (L : List Nb) : List Wn := L.map fun n => (n.st, n.wd)
def dictW (L : List Nb) : List (L2.Key × V) := L.map fun n => (Sum.inl n.st, V.ref n.wa)
theorem valWn (s : Int) : ∀ L : List Nb, (valV (dictW L) (Sum.inl s) = none ∧ ∀ n ∈ L, n.st ≠ s) ∨ ∃ n ∈ L, n.st = s ∧ valV (dictW L) (Sum.inl s) = some (.ref n.wa) ∧ lookW (bare L) s = some n.wd
  | [] => .inl ⟨rfl, fun n hn => absurd hn (by simp)⟩
  | n :: L => by
    by_cases h : n.st = s
    · refine .inr ⟨n, List.mem_cons_self, h, valV_pos (p := (Sum.inl n.st, V.ref n.wa)) (by rw [h]), ?_⟩
      unfold lookW bare
      rw [List.map_cons, List.find?_cons_of_pos (by simpa using h)]
      rfl
    · have e : valV (dictW (n :: L)) (Sum.inl s) = valV (dictW L) (Sum.inl s) := valV_neg (p := (Sum.inl n.st, V.ref n.wa)) fun z => h (Sum.inl.inj z)
      have e2 : lookW (bare (n :: L)) s = lookW (bare L) s := by
        unfold lookW bare
        rw [List.map_cons, List.find?_cons_of_neg (by simpa using h)]
      rcases valWn s L with ⟨h1, h2⟩ | ⟨m, hm, h1, h2, h3⟩
      · refine .inl ⟨by rw [e]; exact h1, fun m hm => ?_⟩
        rcases List.mem_cons.mp hm with z | z
        · rw [z]; exact h
        · exact h2 m z
      · exact .inr ⟨m, List.mem_cons_of_mem _ hm, h1, by rw [e]; exact h2, by rw [e2]; exact h3⟩
theorem look_none {L : List Nb} {s : Int} (h : ∀ n ∈ L, n.st ≠ s) : lookW (bare L) s = none := by
  unfold lookW
  rw [List.find?_eq_none.mpr]
  · rfl
  · intro x hx
    obtain ⟨n, hn, rfl⟩ := List.mem_map.mp hx
    simpa using h n hn
theorem addW_old {M : Mach} {s : Int} {w : List Int} {L : List Nb} {a : Int} {n : Nb} (hn : n ∈ L) (e : n.st = M.next s a) : addW M s w (bare L) a = bare L := by
  unfold addW
  rw [if_pos]
  exact List.any_eq_true.mpr ⟨_, List.mem_map.mpr ⟨n, hn, rfl⟩, decide_eq_true e⟩
theorem addW_new {M : Mach} {s : Int} {w : List Int} {L : List Nb} {a : Int} {r : Addr} (h : ∀ n ∈ L, n.st ≠ M.next s a) : addW M s w (bare L) a = bare (L ++ [⟨M.next s a, w ++ [a], r⟩]) := by
  unfold addW
  rw [if_neg]
  · unfold bare
    rw [List.map_append]
    rfl
  · intro z
    obtain ⟨x, hx, e⟩ := List.any_eq_true.mp z
    obtain ⟨n, hn, rfl⟩ := List.mem_map.mp hx
    exact h n hn (by simpa using e)
theorem bare_at {L : List Nb} {i : Nat} {n : Nb} (h : L[i]? = some n) : (bare L)[i]? = some (n.st, n.wd) := by
  unfold bare
  rw [List.getElem?_map, h]
  rfl
/-- a dict of ways and a queue -/
structure WB (H0 H' : Hp) (d qa : Addr) (L : List Nb) : Prop where
  same : Same H0 H'
  fd : H0 d = none
  fq : H0 qa = none
  dd : H' d = some (.dK (dictW L))
  qq : H' qa = some (.lst (L.map fun n => V.int n.st))
  wl : ∀ n ∈ L, H' n.wa = some (.lst (n.wd.map V.int)) ∧ n.wa ≠ qa
  wf : ∀ n ∈ L, H0 n.wa = none
section
variable {H0 H' H2 : Hp} {d qa : Addr} {L : List Nb}
theorem WB.on (B : WB H0 H' d qa L) (s : Same H' H2) : WB H0 H2 d qa L :=
  ⟨B.same.trans s, B.fd, B.fq, s _ _ B.dd, s _ _ B.qq, fun n hn => ⟨s _ _ (B.wl n hn).1, (B.wl n hn).2⟩, B.wf⟩
theorem WB.push (B : WB H0 H' d qa L) {n : Nb} (hw : H' n.wa = some (.lst (n.wd.map V.int))) (nq : n.wa ≠ qa) (nf : H0 n.wa = none) :
    WB H0 (upd (upd H' d (.dK (dictW (L ++ [n])))) qa (.lst ((L ++ [n]).map fun n => V.int n.st))) d qa (L ++ [n]) := by
  have dq : d ≠ qa := fun z => by
    have := B.dd
    rw [z, B.qq] at this
    cases this
  refine ⟨same_set (same_set B.same B.fd) B.fq, B.fd, B.fq, by rw [upd_ne dq, upd_same], upd_same, fun m hm => ?_, fun m hm => ?_⟩
  · have go : ∀ m : Nb, H' m.wa = some (.lst (m.wd.map V.int)) ∧ m.wa ≠ qa → upd (upd H' d (.dK (dictW (L ++ [n])))) qa (.lst ((L ++ [n]).map fun n => V.int n.st)) m.wa = some (.lst (m.wd.map V.int)) ∧ m.wa ≠ qa := fun m ⟨h1, h2⟩ => by
      have md : m.wa ≠ d := fun z => by
        rw [z, B.dd] at h1
        cases h1
      exact ⟨by rw [upd_ne h2, upd_ne md]; exact h1, h2⟩
    rcases List.mem_append.mp hm with z | z
    · exact go m (B.wl m z)
    · rw [List.mem_singleton.mp z]
      exact go n ⟨hw, nq⟩
  · rcases List.mem_append.mp hm with z | z
    · exact B.wf m z
    · rw [List.mem_singleton.mp z]
      exact nf
end
/-- what stands for the way to a state -/
def WayV (H0 H : Hp) (M : Mach) (x : Nat) (v : V) : Prop := (wayW M (x : Int) = none ∧ v = .non) ∨ ∃ w r, wayW M (x : Int) = some w ∧ v = .ref r ∧ H0 r = none ∧ H r = some (.lst (w.map V.int))
structure Ways (H0 H : Hp) (p : Addr) (M : Mach) (vs : List V) : Prop where
  fr : H0 p = none
  at_ : H p = some (.lst vs)
  len : vs.length = M.rows.length
  val : ∀ x, x < M.rows.length → ∃ v, vs[x]? = some v ∧ WayV H0 H M x v
theorem Ways.same {H0 H H' : Hp} {p : Addr} {M : Mach} {vs : List V} (k : Ways H0 H p M vs) (s : Same H H') : Ways H0 H' p M vs :=
  ⟨k.fr, s _ _ k.at_, k.len, fun x hx => by
    obtain ⟨v, e, h | ⟨w, r, h1, h2, h3, h4⟩⟩ := k.val x hx
    · exact ⟨v, e, .inl h⟩
    · exact ⟨v, e, .inr ⟨w, r, h1, h2, h3, s _ _ h4⟩⟩⟩
end Mz

set_option Elab.async false
set_option linter.all false
set_option maxRecDepth 100000
set_option maxHeartbeats 4000000
namespace K25
open PySem PySem.Spec PyProof.Rows L2 Mz
def top (i : Nat) : Stmt := PySem.Challenge.pw_maieutic_k25_whole_suite_tells_near_ones.main.body.getD i (.Pass ⟨0, 0, 0, 0⟩)
abbrev s_parting_word : Stmt := top 5
abbrev s_check_kin : Stmt := top 6
abbrev s_first_parting : Stmt := top 7
abbrev s_classes : Stmt := top 9
abbrev s_first_places : Stmt := top 10
abbrev s_least : Stmt := top 11
abbrev s_met_states : Stmt := top 12
abbrev s_are_below : Stmt := top 15
abbrev s_is_word : Stmt := top 16
abbrev s_fits : Stmt := top 17
abbrev s_check_word : Stmt := top 18
abbrev s_outputs_from : Stmt := top 19
abbrev s_words_of : Stmt := top 20
abbrev s_word_order : Stmt := top 21
abbrev s_ways_to : Stmt := top 23
abbrev s_telling_words : Stmt := top 24
abbrev s_are_told : Stmt := top 28
abbrev s_suite_words : Stmt := top 29
abbrev s_most_words : Stmt := top 30
abbrev s_heads : Stmt := top 31
abbrev s_law_numbers : Stmt := top 33
abbrev s_law_machine : Stmt := top 34
abbrev s_law_kinds : Stmt := top 35
abbrev s_law_least : Stmt := top 36
abbrev s_law_along : Stmt := top 37
abbrev s_law_differ : Stmt := top 38
abbrev s_law_twin : Stmt := top 39
abbrev s_law_spoilt : Stmt := top 40
abbrev s_law_lock : Stmt := top 41
abbrev s_law_late : Stmt := top 42
abbrev s_law : Stmt := top 43
theorem sc_parting_word : FnScope ["machine", "state", "other", "count", "word"] ["machine", "state", "other"] (defScope s_parting_word) := ⟨rfl, rfl, rfl, by decide +kernel, rfl, by decide +kernel, by decide +kernel⟩
theorem sc_check_kin : FnScope ["first", "second"] ["first", "second"] (defScope s_check_kin) := ⟨rfl, rfl, rfl, by decide +kernel, rfl, by decide +kernel, by decide +kernel⟩
theorem sc_first_parting : FnScope ["first", "second", "start", "words", "queue", "place", "pair", "letter", "after"] ["first", "second", "start"] (defScope s_first_parting) := ⟨rfl, rfl, rfl, by decide +kernel, rfl, by decide +kernel, by decide +kernel⟩
theorem sc_classes : FnScope ["machine", "moves", "same", "marks", "finer", "state", "row", "after"] ["machine"] (defScope s_classes) := ⟨rfl, rfl, rfl, by decide +kernel, rfl, by decide +kernel, by decide +kernel⟩
theorem sc_first_places : FnScope ["marks", "first", "place", "mark"] ["marks"] (defScope s_first_places) := ⟨rfl, rfl, rfl, by decide +kernel, rfl, by decide +kernel, by decide +kernel⟩
theorem sc_least : FnScope ["machine", "letters", "outs", "moves", "outputs", "same", "order", "numbers", "rows", "number", "state", "after"] ["machine"] (defScope s_least) := ⟨rfl, rfl, rfl, by decide +kernel, rfl, by decide +kernel, by decide +kernel⟩
theorem sc_met_states : FnScope ["moves", "same", "order", "met", "place", "state", "after"] ["moves", "same"] (defScope s_met_states) := ⟨rfl, rfl, rfl, by decide +kernel, rfl, by decide +kernel, by decide +kernel⟩
theorem sc_are_below : FnScope ["numbers", "limit", "number"] ["numbers", "limit"] (defScope s_are_below) := ⟨rfl, rfl, rfl, by decide +kernel, rfl, by decide +kernel, by decide +kernel⟩
theorem sc_is_word : FnScope ["word", "letters", "longest"] ["word", "letters", "longest"] (defScope s_is_word) := ⟨rfl, rfl, rfl, by decide +kernel, rfl, by decide +kernel, by decide +kernel⟩
theorem sc_fits : FnScope ["machine", "word"] ["machine", "word"] (defScope s_fits) := ⟨rfl, rfl, rfl, by decide +kernel, rfl, by decide +kernel, by decide +kernel⟩
theorem sc_check_word : FnScope ["machine", "word"] ["machine", "word"] (defScope s_check_word) := ⟨rfl, rfl, rfl, by decide +kernel, rfl, by decide +kernel, by decide +kernel⟩
theorem sc_outputs_from : FnScope ["machine", "state", "word", "along", "letter"] ["machine", "state", "word"] (defScope s_outputs_from) := ⟨rfl, rfl, rfl, by decide +kernel, rfl, by decide +kernel, by decide +kernel⟩
theorem sc_words_of : FnScope ["letters", "length", "words", "_", "word", "letter"] ["letters", "length"] (defScope s_words_of) := ⟨rfl, rfl, rfl, by decide +kernel, rfl, by decide +kernel, by decide +kernel⟩
theorem sc_word_order : FnScope ["word"] ["word"] (defScope s_word_order) := ⟨rfl, rfl, rfl, by decide +kernel, rfl, by decide +kernel, by decide +kernel⟩
theorem sc_ways_to : FnScope ["machine", "ways", "queue", "place", "state", "letter", "after"] ["machine"] (defScope s_ways_to) := ⟨rfl, rfl, rfl, by decide +kernel, rfl, by decide +kernel, by decide +kernel⟩
theorem sc_telling_words : FnScope ["machine", "small", "words", "same", "state", "word", "one", "mark"] ["machine"] (defScope s_telling_words) := ⟨rfl, rfl, rfl, by decide +kernel, rfl, by decide +kernel, by decide +kernel⟩
theorem sc_are_told : FnScope ["words", "first", "second", "word"] ["words", "first", "second"] (defScope s_are_told) := ⟨rfl, rfl, rfl, by decide +kernel, rfl, by decide +kernel, by decide +kernel⟩
theorem sc_suite_words : FnScope ["machine", "extra", "small", "middle", "middles", "tails", "found", "head", "tail", "length", "word"] ["machine", "extra"] (defScope s_suite_words) := ⟨rfl, rfl, rfl, by decide +kernel, rfl, by decide +kernel, by decide +kernel⟩
theorem sc_most_words : FnScope ["letters", "states", "extra", "middles", "longest", "_"] ["letters", "states", "extra"] (defScope s_most_words) := ⟨rfl, rfl, rfl, by decide +kernel, rfl, by decide +kernel, by decide +kernel⟩
theorem sc_heads : FnScope ["small", "longer", "way", "letter"] ["small"] (defScope s_heads) := ⟨rfl, rfl, rfl, by decide +kernel, rfl, by decide +kernel, by decide +kernel⟩
theorem sc_law_numbers : FnScope ["script", "many", "numbers", "k", "cell", "j", "mixed", "base", "last"] ["script", "many"] (defScope s_law_numbers) := ⟨rfl, rfl, rfl, by decide +kernel, rfl, by decide +kernel, by decide +kernel⟩
theorem sc_law_machine : FnScope ["numbers", "at", "letters", "outs", "states", "moves", "outputs", "state", "row", "letter"] ["numbers", "at", "letters", "outs", "states"] (defScope s_law_machine) := ⟨rfl, rfl, rfl, by decide +kernel, rfl, by decide +kernel, by decide +kernel⟩
theorem sc_law_kinds : FnScope ["machine", "kinds", "turn", "rows", "after", "state", "row", "other"] ["machine"] (defScope s_law_kinds) := ⟨rfl, rfl, rfl, by decide +kernel, rfl, by decide +kernel, by decide +kernel⟩
theorem sc_law_least : FnScope ["machine", "kinds", "order", "seen", "at", "other", "moves", "state"] ["machine"] (defScope s_law_least) := ⟨rfl, rfl, rfl, by decide +kernel, rfl, by decide +kernel, by decide +kernel⟩
theorem sc_law_along : FnScope ["machine", "state", "word", "outputs", "letter"] ["machine", "state", "word"] (defScope s_law_along) := ⟨rfl, rfl, rfl, by decide +kernel, rfl, by decide +kernel, by decide +kernel⟩
theorem sc_law_differ : FnScope ["first", "second", "pairs", "at", "pair", "letter", "other"] ["first", "second"] (defScope s_law_differ) := ⟨rfl, rfl, rfl, by decide +kernel, rfl, by decide +kernel, by decide +kernel⟩
theorem sc_law_twin : FnScope ["machine", "numbers", "extra", "states", "state", "origin", "k", "moves", "row", "letter", "target", "same", "other"] ["machine", "numbers", "extra"] (defScope s_law_twin) := ⟨rfl, rfl, rfl, by decide +kernel, rfl, by decide +kernel, by decide +kernel⟩
theorem sc_law_spoilt : FnScope ["machine", "numbers", "extra", "moves", "outputs", "state", "row"] ["machine", "numbers", "extra"] (defScope s_law_spoilt) := ⟨rfl, rfl, rfl, by decide +kernel, rfl, by decide +kernel, by decide +kernel⟩
theorem sc_law_lock : FnScope ["numbers", "letters", "states", "moves", "state", "row", "letter"] ["numbers", "letters", "states"] (defScope s_law_lock) := ⟨rfl, rfl, rfl, by decide +kernel, rfl, by decide +kernel, by decide +kernel⟩
theorem sc_law_late : FnScope ["small", "states", "outputs", "state", "k", "moves"] ["small", "states"] (defScope s_law_late) := ⟨rfl, rfl, rfl, by decide +kernel, rfl, by decide +kernel, by decide +kernel⟩
theorem sc_law : FnScope ["script", "numbers", "letters", "machine", "extra", "small", "words", "along", "k", "other", "told", "word", "j"] ["script"] (defScope s_law) := ⟨rfl, rfl, rfl, by decide +kernel, rfl, by decide +kernel, by decide +kernel⟩
/-- where the top has put what it makes -/
structure Ads where
  a_MaieuticError : Addr
  a_NotAllowed : Addr
  a_Alike : Addr
  a_parting_word : Addr
  d_parting_word : FuncData
  a_check_kin : Addr
  d_check_kin : FuncData
  a_first_parting : Addr
  d_first_parting : FuncData
  a_classes : Addr
  d_classes : FuncData
  a_first_places : Addr
  d_first_places : FuncData
  a_least : Addr
  d_least : FuncData
  a_met_states : Addr
  d_met_states : FuncData
  a_are_below : Addr
  d_are_below : FuncData
  a_is_word : Addr
  d_is_word : FuncData
  a_fits : Addr
  d_fits : FuncData
  a_check_word : Addr
  d_check_word : FuncData
  a_outputs_from : Addr
  d_outputs_from : FuncData
  a_words_of : Addr
  d_words_of : FuncData
  a_word_order : Addr
  d_word_order : FuncData
  a_ways_to : Addr
  d_ways_to : FuncData
  a_telling_words : Addr
  d_telling_words : FuncData
  a_are_told : Addr
  d_are_told : FuncData
  a_suite_words : Addr
  d_suite_words : FuncData
  a_most_words : Addr
  d_most_words : FuncData
  a_heads : Addr
  d_heads : FuncData
  a_law_numbers : Addr
  d_law_numbers : FuncData
  a_law_machine : Addr
  d_law_machine : FuncData
  a_law_kinds : Addr
  d_law_kinds : FuncData
  a_law_least : Addr
  d_law_least : FuncData
  a_law_along : Addr
  d_law_along : FuncData
  a_law_differ : Addr
  d_law_differ : FuncData
  a_law_twin : Addr
  d_law_twin : FuncData
  a_law_spoilt : Addr
  d_law_spoilt : FuncData
  a_law_lock : Addr
  d_law_lock : FuncData
  a_law_late : Addr
  d_law_late : FuncData
  a_law : Addr
  d_law : FuncData
/-- what the proofs ask of the written part -/
structure Txt (K : PySem.W.Frag) (mg : Str → Option Value) (A : Ads) : Prop where
  g_MaieuticError : mg "MaieuticError" = some (.ref A.a_MaieuticError)
  x_MaieuticError : PySem.W.excIn K A.a_MaieuticError [.type "ValueError", .type "Exception", .type "BaseException", .type "object"] "ValueError.__new__" = true
  k_MaieuticError : PySem.W.keepIn K (.ref A.a_MaieuticError) = true
  sb_MaieuticError : PySem.W.subIn K (.ref A.a_MaieuticError) (.type "BaseException") = some true
  ty_MaieuticError : PySem.W.typeIn K (.ref A.a_MaieuticError) = some (.type "type")
  E_MaieuticError : ExcC K A.a_MaieuticError
  g_NotAllowed : mg "NotAllowed" = some (.ref A.a_NotAllowed)
  x_NotAllowed : PySem.W.excIn K A.a_NotAllowed [.type "ValueError", .type "Exception", .type "BaseException", .type "object"] "ValueError.__new__" = true
  k_NotAllowed : PySem.W.keepIn K (.ref A.a_NotAllowed) = true
  sb_NotAllowed : PySem.W.subIn K (.ref A.a_NotAllowed) (.type "BaseException") = some true
  ty_NotAllowed : PySem.W.typeIn K (.ref A.a_NotAllowed) = some (.type "type")
  E_NotAllowed : ExcC K A.a_NotAllowed
  g_Alike : mg "Alike" = some (.ref A.a_Alike)
  x_Alike : PySem.W.excIn K A.a_Alike [.type "ValueError", .type "Exception", .type "BaseException", .type "object"] "ValueError.__new__" = true
  k_Alike : PySem.W.keepIn K (.ref A.a_Alike) = true
  sb_Alike : PySem.W.subIn K (.ref A.a_Alike) (.type "BaseException") = some true
  ty_Alike : PySem.W.typeIn K (.ref A.a_Alike) = some (.type "type")
  E_Alike : ExcC K A.a_Alike
  su_MaieuticError_MaieuticError : PySem.W.subIn K (.ref A.a_MaieuticError) (.ref A.a_MaieuticError) = some true
  su_MaieuticError_NotAllowed : PySem.W.subIn K (.ref A.a_MaieuticError) (.ref A.a_NotAllowed) = some false
  su_MaieuticError_Alike : PySem.W.subIn K (.ref A.a_MaieuticError) (.ref A.a_Alike) = some false
  su_NotAllowed_MaieuticError : PySem.W.subIn K (.ref A.a_NotAllowed) (.ref A.a_MaieuticError) = some true
  su_NotAllowed_NotAllowed : PySem.W.subIn K (.ref A.a_NotAllowed) (.ref A.a_NotAllowed) = some true
  su_NotAllowed_Alike : PySem.W.subIn K (.ref A.a_NotAllowed) (.ref A.a_Alike) = some false
  su_Alike_MaieuticError : PySem.W.subIn K (.ref A.a_Alike) (.ref A.a_MaieuticError) = some true
  su_Alike_NotAllowed : PySem.W.subIn K (.ref A.a_Alike) (.ref A.a_NotAllowed) = some false
  su_Alike_Alike : PySem.W.subIn K (.ref A.a_Alike) (.ref A.a_Alike) = some true
  F_parting_word : Fun K "parting_word" "parting_word" s_parting_word A.a_parting_word A.d_parting_word
  b_parting_word : Binds K A.d_parting_word ["machine", "state", "other"] []
  g_parting_word : mg "parting_word" = some (.ref A.a_parting_word)
  F_check_kin : Fun K "check_kin" "check_kin" s_check_kin A.a_check_kin A.d_check_kin
  b_check_kin : Binds K A.d_check_kin ["first", "second"] []
  g_check_kin : mg "check_kin" = some (.ref A.a_check_kin)
  F_first_parting : Fun K "_first_parting" "_first_parting" s_first_parting A.a_first_parting A.d_first_parting
  b_first_parting : Binds K A.d_first_parting ["first", "second", "start"] []
  g_first_parting : mg "_first_parting" = some (.ref A.a_first_parting)
  F_classes : Fun K "classes" "classes" s_classes A.a_classes A.d_classes
  b_classes : Binds K A.d_classes ["machine"] []
  g_classes : mg "classes" = some (.ref A.a_classes)
  F_first_places : Fun K "first_places" "first_places" s_first_places A.a_first_places A.d_first_places
  b_first_places : Binds K A.d_first_places ["marks"] []
  g_first_places : mg "first_places" = some (.ref A.a_first_places)
  F_least : Fun K "least" "least" s_least A.a_least A.d_least
  b_least : Binds K A.d_least ["machine"] []
  g_least : mg "least" = some (.ref A.a_least)
  F_met_states : Fun K "_met_states" "_met_states" s_met_states A.a_met_states A.d_met_states
  b_met_states : Binds K A.d_met_states ["moves", "same"] []
  g_met_states : mg "_met_states" = some (.ref A.a_met_states)
  F_are_below : Fun K "are_below" "are_below" s_are_below A.a_are_below A.d_are_below
  b_are_below : Binds K A.d_are_below ["numbers", "limit"] []
  g_are_below : mg "are_below" = some (.ref A.a_are_below)
  F_is_word : Fun K "is_word" "is_word" s_is_word A.a_is_word A.d_is_word
  b_is_word : Binds K A.d_is_word ["word", "letters", "longest"] []
  g_is_word : mg "is_word" = some (.ref A.a_is_word)
  F_fits : Fun K "fits" "fits" s_fits A.a_fits A.d_fits
  b_fits : Binds K A.d_fits ["machine", "word"] []
  g_fits : mg "fits" = some (.ref A.a_fits)
  F_check_word : Fun K "check_word" "check_word" s_check_word A.a_check_word A.d_check_word
  b_check_word : Binds K A.d_check_word ["machine", "word"] []
  g_check_word : mg "check_word" = some (.ref A.a_check_word)
  F_outputs_from : Fun K "outputs_from" "outputs_from" s_outputs_from A.a_outputs_from A.d_outputs_from
  b_outputs_from : Binds K A.d_outputs_from ["machine", "state", "word"] []
  g_outputs_from : mg "outputs_from" = some (.ref A.a_outputs_from)
  F_words_of : Fun K "words_of" "words_of" s_words_of A.a_words_of A.d_words_of
  b_words_of : Binds K A.d_words_of ["letters", "length"] []
  g_words_of : mg "words_of" = some (.ref A.a_words_of)
  F_word_order : Fun K "word_order" "word_order" s_word_order A.a_word_order A.d_word_order
  b_word_order : Binds K A.d_word_order ["word"] []
  g_word_order : mg "word_order" = some (.ref A.a_word_order)
  F_ways_to : Fun K "ways_to" "ways_to" s_ways_to A.a_ways_to A.d_ways_to
  b_ways_to : Binds K A.d_ways_to ["machine"] []
  g_ways_to : mg "ways_to" = some (.ref A.a_ways_to)
  F_telling_words : Fun K "telling_words" "telling_words" s_telling_words A.a_telling_words A.d_telling_words
  b_telling_words : Binds K A.d_telling_words ["machine"] []
  g_telling_words : mg "telling_words" = some (.ref A.a_telling_words)
  F_are_told : Fun K "are_told" "are_told" s_are_told A.a_are_told A.d_are_told
  b_are_told : Binds K A.d_are_told ["words", "first", "second"] []
  g_are_told : mg "are_told" = some (.ref A.a_are_told)
  F_suite_words : Fun K "suite_words" "suite_words" s_suite_words A.a_suite_words A.d_suite_words
  b_suite_words : Binds K A.d_suite_words ["machine", "extra"] []
  g_suite_words : mg "suite_words" = some (.ref A.a_suite_words)
  F_most_words : Fun K "most_words" "most_words" s_most_words A.a_most_words A.d_most_words
  b_most_words : Binds K A.d_most_words ["letters", "states", "extra"] []
  g_most_words : mg "most_words" = some (.ref A.a_most_words)
  F_heads : Fun K "_heads" "_heads" s_heads A.a_heads A.d_heads
  b_heads : Binds K A.d_heads ["small"] []
  g_heads : mg "_heads" = some (.ref A.a_heads)
  F_law_numbers : Fun K "_law_numbers" "_law_numbers" s_law_numbers A.a_law_numbers A.d_law_numbers
  b_law_numbers : Binds K A.d_law_numbers ["script", "many"] []
  g_law_numbers : mg "_law_numbers" = some (.ref A.a_law_numbers)
  F_law_machine : Fun K "_law_machine" "_law_machine" s_law_machine A.a_law_machine A.d_law_machine
  b_law_machine : Binds K A.d_law_machine ["numbers", "at", "letters", "outs", "states"] []
  g_law_machine : mg "_law_machine" = some (.ref A.a_law_machine)
  F_law_kinds : Fun K "_law_kinds" "_law_kinds" s_law_kinds A.a_law_kinds A.d_law_kinds
  b_law_kinds : Binds K A.d_law_kinds ["machine"] []
  g_law_kinds : mg "_law_kinds" = some (.ref A.a_law_kinds)
  F_law_least : Fun K "_law_least" "_law_least" s_law_least A.a_law_least A.d_law_least
  b_law_least : Binds K A.d_law_least ["machine"] []
  g_law_least : mg "_law_least" = some (.ref A.a_law_least)
  F_law_along : Fun K "_law_along" "_law_along" s_law_along A.a_law_along A.d_law_along
  b_law_along : Binds K A.d_law_along ["machine", "state", "word"] []
  g_law_along : mg "_law_along" = some (.ref A.a_law_along)
  F_law_differ : Fun K "_law_differ" "_law_differ" s_law_differ A.a_law_differ A.d_law_differ
  b_law_differ : Binds K A.d_law_differ ["first", "second"] []
  g_law_differ : mg "_law_differ" = some (.ref A.a_law_differ)
  F_law_twin : Fun K "_law_twin" "_law_twin" s_law_twin A.a_law_twin A.d_law_twin
  b_law_twin : Binds K A.d_law_twin ["machine", "numbers", "extra"] []
  g_law_twin : mg "_law_twin" = some (.ref A.a_law_twin)
  F_law_spoilt : Fun K "_law_spoilt" "_law_spoilt" s_law_spoilt A.a_law_spoilt A.d_law_spoilt
  b_law_spoilt : Binds K A.d_law_spoilt ["machine", "numbers", "extra"] []
  g_law_spoilt : mg "_law_spoilt" = some (.ref A.a_law_spoilt)
  F_law_lock : Fun K "_law_lock" "_law_lock" s_law_lock A.a_law_lock A.d_law_lock
  b_law_lock : Binds K A.d_law_lock ["numbers", "letters", "states"] []
  g_law_lock : mg "_law_lock" = some (.ref A.a_law_lock)
  F_law_late : Fun K "_law_late" "_law_late" s_law_late A.a_law_late A.d_law_late
  b_law_late : Binds K A.d_law_late ["small", "states"] []
  g_law_late : mg "_law_late" = some (.ref A.a_law_late)
  F_law : Fun K "law" "law" s_law A.a_law A.d_law
  b_law : Binds K A.d_law ["script"] []
  g_law : mg "law" = some (.ref A.a_law)
  c_MAX_WORD : ∃ u, mg "MAX_WORD" = some u ∧ RelV (.int 400) u
  c_MAX_EXTRA : ∃ u, mg "MAX_EXTRA" = some u ∧ RelV (.int 29) u
  c_MAX_LIST : ∃ u, mg "MAX_LIST" = some u ∧ RelV (.int 4000) u
  n_len : mg "len" = none
  n_range : mg "range" = none
  n_enumerate : mg "enumerate" = none
  n_tuple : mg "tuple" = none
  n_all : mg "all" = none
  n_sorted : mg "sorted" = none
  n_any : mg "any" = none
  n_max : mg "max" = none
  n_abs : mg "abs" = none
  n_int : mg "int" = none
  n_list : mg "list" = none
  n_min : mg "min" = none
/-- what _law_numbers gives -/
structure Nums (ms : List Int) (many : Int) : Prop where
  len : (ms.length : Int) = many
  ok : ∀ z ∈ ms, 0 ≤ z ∧ z < 4294967296
def spNumbers (K : PySem.W.Frag) : Sp := fun vs H Q _ => ∃ (a : Addr) (ns : List Int) (many : Int), vs = [.ref a, .int many] ∧ SqL K H a (ns.map V.int) ∧ ns.length ≤ 63 ∧ 0 ≤ many ∧ many ≤ 4000 ∧
  ∀ (ms : List Int) (H' : Hp) (p : Addr), Nums ms many → Same H H' → H p = none → H' p = some (.lst (ms.map V.int)) → Q (.ref p) H'
/-- the number at a place -/
def nat (ns : List Int) (i : Int) : Int := ns.getD (i % (ns.length : Int)).toNat 0
def spMachine (K : PySem.W.Frag) : Sp := fun vs H Q _ => ∃ (p : Addr) (ms : List Int) (i k o n : Int), vs = [.ref p, .int i, .int k, .int o, .int n] ∧ SqL K H p (ms.map V.int) ∧ 0 < ms.length ∧ (1 ≤ n ∧ n ≤ 30) ∧ (1 ≤ k ∧ k ≤ 4) ∧ (1 ≤ o ∧ o ≤ 6) ∧
  ∀ (M : Mach) (H' : Hp) (m : Addr), Good M → M.ls = k → M.os = o → (M.rows.length : Int) = n → Same H H' → MA H' m M → H m = none → Q (.ref m) H'
section
variable {P : Program} {w : World} {K : PySem.W.Frag} {mg : Str → Option Value} {base : Heap} {A : Ads}
theorem ok_numbers (T : Txt K mg A) : FnOk P w K mg base CX0 1 A.a_law_numbers A.d_law_numbers ["script", "many"] (spNumbers K) := by
  refine T.F_law_numbers.ok sc_law_numbers (fun vs H Q E h => ?_) (fun cdv Ar outer s H vs Q E hr h => ?_)
  · obtain ⟨_, _, _, rfl, _⟩ := h
    rfl
  · obtain ⟨a, ns, many, rfl, hS, l63, m0, m4, fin⟩ := h
    refine ⟨_, (pss_cons (ps_set (i := 2) sc_law_numbers.nd rfl (Or.inl rfl) (pe_lst pa_nil))
      (pss_cons (ps_for PassesOwn.never rfl (pi_range1 (by rfl) T.n_range (pa_cons (pe_callB call_len_seq (by rfl) T.n_len PySem.boot_len (pa_cons (pv 0) pa_nil)) pa_nil)) (pg_name (i := 3) sc_law_numbers.nd rfl (Or.inl rfl))
        (pss_cons (ps_set (i := 4) sc_law_numbers.nd rfl (Or.inl rfl) (pe_callB call_abs (by rfl) T.n_abs (by decide +kernel) (pa_cons (pe_callTy call_int1 (by rfl) T.n_int (by decide +kernel) (pa_cons (pe_ix (r := rIx K) ix_seq (pv 0) (pv 3) (fun _ _ => rfl)) pa_nil)) pa_nil)))
          (pss_one (ps_if (pt_cmpR op_ge (pv 4) (pe_op op_pow pe_int pe_int) (nomark _)) (pss_one (ps_for PassesOwn.never rfl (pi_range1 (by rfl) T.n_range (pa_cons pe_int pa_nil)) (pg_name (i := 5) sc_law_numbers.nd rfl (Or.inl rfl))
                (pss_one (ps_if (PW.pt (pw_and (pt_cmpR op_gt (pv 4) pe_int (nomark _)) (pw_and1 (pt_cmpR op_lt (pe_callB call_len_seq (by rfl) T.n_len PySem.boot_len (pa_cons (pv 2) pa_nil)) (pv 1) (nomark _))))) (pss_cons (ps_expr (pe_bm PySem.F.plainAttrs_list PySem.F.slot_list_append PySem.F.type_list_append mt_append (pv 2) (pa_cons (pe_op op_mod (pv 4) pe_int) pa_nil)))
                      (pss_one (ps_set (i := 4) sc_law_numbers.nd rfl (Or.inl rfl) (pe_op op_fdiv (pv 4) pe_int)))) pss_nil)))) (pss_one (ps_if (pt_cmpR op_lt (pe_callB call_len_seq (by rfl) T.n_len PySem.boot_len (pa_cons (pv 2) pa_nil)) (pv 1) (nomark _)) (pss_cons (ps_set (i := 6) sc_law_numbers.nd rfl (Or.inl rfl) (pe_op op_mod (pe_callTy call_int1 (by rfl) T.n_int (by decide +kernel) (pa_cons (pe_op op_add (pe_op op_add (pe_op op_mul (pv 4) pe_int) (pe_op op_mul (pv 3) pe_int)) pe_int) pa_nil)) pe_int))
                  (pss_one (ps_expr (pe_bm PySem.F.plainAttrs_list PySem.F.slot_list_append PySem.F.type_list_append mt_append (pv 2) (pa_cons (pe_op op_fdiv (pe_op op_mod (pe_callTy call_int1 (by rfl) T.n_int (by decide +kernel) (pa_cons (pe_op op_add (pe_op op_add (pe_op op_mul (pv 6) pe_int) (pe_op op_mul pe_int (pv 3))) pe_int) pa_nil)) pe_int) pe_int) pa_nil))))) pss_nil))))))
      (pss_cons (ps_set (i := 7) sc_law_numbers.nd rfl (Or.inl rfl) (pe_callB call_len_seq (by rfl) T.n_len PySem.boot_len (pa_cons (pv 2) pa_nil)))
      (pss_cons (ps_set (i := 8) sc_law_numbers.nd rfl (Or.inl rfl) (pe_op op_add pe_int (pe_callB call_len_seq (by rfl) T.n_len PySem.boot_len (pa_cons (pv 0) pa_nil))))
      (pss_cons (ps_for PassesOwn.never rfl (pi_range1 (by rfl) T.n_range (pa_cons (pe_callB (call_max2 rfl) (by rfl) T.n_max (by decide +kernel) (pa_cons pe_int (pa_cons (pe_op op_sub (pv 1) (pv 7)) pa_nil))) pa_nil)) (pg_name (i := 3) sc_law_numbers.nd rfl (Or.inl rfl))
        (pss_cons (ps_if (pt_cmpR op_gt (pv 7) pe_int (nomark _)) (pss_one (ps_set (i := 8) sc_law_numbers.nd rfl (Or.inl rfl) (pe_op op_add (pv 8) (pe_ix (r := rIx K) ix_seq (pv 2) (pe_op op_mod (pv 3) (pv 7)) (fun _ _ => rfl))))) pss_nil)
          (pss_cons (ps_set (i := 8) sc_law_numbers.nd rfl (Or.inl rfl) (pe_op op_mod (pe_callTy call_int1 (by rfl) T.n_int (by decide +kernel) (pa_cons (pe_op op_add (pe_op op_mul (pv 8) pe_int) (pv 3)) pa_nil)) pe_int))
          (pss_one (ps_expr (pe_bm PySem.F.plainAttrs_list PySem.F.slot_list_append PySem.F.type_list_append mt_append (pv 2) (pa_cons (pe_op op_fdiv (pv 8) pe_int) pa_nil)))))))
      (pss_one (ps_ret (pe_slice sl_list (pv 2) po_none (po_some (pv 1)))))))))), ?_⟩
    refine ⟨Nat.zero_le _, fun l hl => ?_⟩
    have s0 : Same H (upd H l (.lst [])) := same_upd (Same.refl H) hl
    have hls : (ns.map V.int).length = ns.length := List.length_map ..
    -- one more number
    have push : ∀ (H1 : Hp) (ms : List Int) (z : Int), Same H H1 → (∀ z ∈ ms, 0 ≤ z ∧ z < 4294967296) → 0 ≤ z ∧ z < 4294967296 →
        Same H (upd H1 l (.lst (ms.map V.int ++ [.int z]))) ∧ (upd H1 l (.lst (ms.map V.int ++ [.int z]))) l = some (.lst ((ms ++ [z]).map V.int)) ∧ (∀ x ∈ ms ++ [z], 0 ≤ x ∧ x < 4294967296) := by
      intro H1 ms z q1 q4 q5
      refine ⟨same_set q1 hl, ?_, ?_⟩
      · rw [upd_same, List.map_append]
        rfl
      · intro x hx
        rcases List.mem_append.mp hx with e | e
        · exact q4 x e
        · rw [List.mem_singleton.mp e]
          exact q5
    refine ⟨_, rfl, a, _, rfl, .inl (s0.seq hS), ?_⟩
    rw [hls]
    refine ⟨ns.length, rfl, by omega, by omega, for_range (fun i σ H' => ∃ (ms : List Int) (v3 v4 v5 v6 v7 v8 : Option V), σ = [some (.ref a), some (.int many), some (.ref l), v3, v4, v5, v6, v7, v8] ∧ Same H H' ∧ H' l = some (.lst (ms.map V.int)) ∧ (ms.length : Int) ≤ many ∧ (∀ z ∈ ms, 0 ≤ z ∧ z < 4294967296))
      ⟨[], none, none, none, none, none, none, rfl, s0, upd_same, m0, fun z hz => absurd hz (by simp)⟩ ?_ ?_⟩
    · rintro i σ H' hi ⟨ms, v3, v4, v5, v6, v7, v8, rfl, s1, e1, few, ok⟩
      have hi : i < ns.length := hi
      have i0 : ((0 : Int) + (i : Int)).toNat = i := by omega
      refine ⟨_, rfl, _, rfl, .inl ⟨a, _, _, _, rfl, rfl, s1.seq hS, atI_get? (z := ns[i]) (by omega) (by rw [i0]; exact List.getElem?_eq_getElem hi), ?_⟩⟩
      refine .inl ⟨_, rfl, _, rfl, ?_⟩
      have c0 : 0 ≤ (if ns[i] < 0 then -ns[i] else ns[i]) := by split <;> omega
      generalize (if ns[i] < 0 then -ns[i] else ns[i]) = c at c0
      refine ⟨_, rfl, _, _, rfl, rfl, ⟨by decide, by decide, by decide⟩, _, _, rfl, rfl, _, rfl, ?_⟩
      refine ite2 (fun big => ?_) (fun big => ?_)
      · refine ⟨60, rfl, by decide, by decide, for_range (n := 60) (fun j σ H' => ∃ (ms : List Int) (r : Int) (v5 v6 v7 v8 : Option V), σ = [some (.ref a), some (.int many), some (.ref l), some (.int ((0 : Int) + (i : Int))), some (.int r), v5, v6, v7, v8] ∧ 0 ≤ r ∧ Same H H' ∧ H' l = some (.lst (ms.map V.int)) ∧ (ms.length : Int) ≤ many ∧ (∀ z ∈ ms, 0 ≤ z ∧ z < 4294967296))
          ⟨ms, c, v5, v6, v7, v8, rfl, c0, s1, e1, few, ok⟩ ?_ ?_⟩
        · clear s1 e1 few ok ms big c0 c
          rintro j σ H1 hj ⟨ms, r, v5, v6, v7, v8, rfl, r0, s1, e1, few, ok⟩
          have hlm : (ms.map V.int).length = ms.length := List.length_map ..
          refine ⟨_, rfl, _, _, rfl, rfl, _, rfl, ?_⟩
          refine ite2 (fun c1 => ?_) (fun c1 => ?_)
          · refine ⟨_, rfl, l, _, rfl, .inl (SqL.of e1), _, rfl, _, _, rfl, rfl, _, rfl, ?_⟩
            rw [hlm]
            refine ite2 (fun c2 => ?_) (fun c2 => ?_)
            · have c2 : (ms.length : Int) < many := by simpa using c2
              refine ⟨_, rfl, .inl ⟨rfl, _, SqL.of e1⟩, _, rfl, _, _, rfl, rfl, (by show (0 : Int) < 10007; decide), l, _, _, rfl, rfl, e1, ?_, ?_⟩
              · rw [hlm]
                exact Nat.lt_of_le_of_lt (by omega : ms.length ≤ 4000) (by decide)
              · obtain ⟨p1, p2, p4⟩ := push H1 ms (r % 10007) s1 ok (by omega)
                refine ⟨_, rfl, _, _, rfl, rfl, ⟨by decide, by decide⟩, ?_⟩
                exact ⟨ms ++ [r % 10007], _, _, _, _, _, rfl, Int.ediv_nonneg r0 (by decide), p1, p2, by rw [List.length_append, List.length_singleton]; omega, p4⟩
            · exact ⟨ms, _, _, _, _, _, rfl, r0, s1, e1, few, ok⟩
          · exact ⟨ms, _, _, _, _, _, rfl, r0, s1, e1, few, ok⟩
        · rintro σ H1 ⟨ms, r, v5, v6, v7, v8, rfl, r0, s1, e1, few, ok⟩
          exact ⟨ms, _, _, _, _, _, _, rfl, s1, e1, few, ok⟩
      · have hlm : (ms.map V.int).length = ms.length := List.length_map ..
        refine ⟨_, rfl, l, _, rfl, .inl (SqL.of e1), _, rfl, _, _, rfl, rfl, _, rfl, ?_⟩
        rw [hlm]
        refine ite2 (fun c2 => ?_) (fun c2 => ?_)
        · have c2 : (ms.length : Int) < many := by simpa using c2
          refine ⟨_, rfl, _, _, rfl, rfl, .inr ⟨by decide, by decide⟩, _, rfl, _, _, rfl, rfl, .inr ⟨by decide, by decide⟩, _, _, rfl, rfl, _, _, rfl, rfl, .inl ⟨_, rfl, _, _, rfl, rfl, (by show (0 : Int) < 2147483647; decide), ?_⟩⟩
          refine ⟨_, rfl, .inl ⟨rfl, _, SqL.of e1⟩, _, rfl, _, _, rfl, rfl, .inr ⟨by decide, by decide⟩, _, rfl, _, _, rfl, rfl, .inl ⟨by decide, by decide⟩, _, _, rfl, rfl, _, _, rfl, rfl, .inl ⟨_, rfl, _, _, rfl, rfl, (by show (0 : Int) < 2147483647; decide), _, _, rfl, rfl, ⟨by decide, by decide⟩, l, _, _, rfl, rfl, e1, ?_, ?_⟩⟩
          · rw [hlm]
            exact Nat.lt_of_le_of_lt (by omega : ms.length ≤ 4000) (by decide)
          · refine (fun (pp : _ ∧ _ ∧ _) => ⟨ms ++ [_], _, _, _, _, _, _, rfl, pp.1, pp.2.1, (by rw [List.length_append, List.length_singleton]; omega), pp.2.2⟩) (push H' ms _ s1 ok (by omega))
        · exact ⟨ms, _, _, _, _, _, _, rfl, s1, e1, few, ok⟩
    · rintro σ H' ⟨ms, v3, v4, v5, v6, v7, v8, rfl, s1, e1, few, ok⟩
      have hlm : (ms.map V.int).length = ms.length := List.length_map ..
      refine ⟨_, rfl, l, _, rfl, .inl (SqL.of e1), ?_⟩
      rw [hlm]
      refine ⟨_, rfl, a, _, rfl, .inl (s1.seq hS), _, _, rfl, rfl, ?_⟩
      rw [hls]
      have mx : ∀ (d : Int), (if d > 0 then d else 0) = (d.toNat : Int) := fun d => by split <;> omega
      refine ⟨_, rfl, _, rfl, _, _, rfl, rfl, _, _, rfl, ?_⟩
      have lb : ms.length ≤ 4000 := by omega
      refine ⟨((many - (ms.length : Int)).toNat : Int), congrArg (fun z => [V.int z]) (mx _), by omega, by omega, for_range (fun i σ H' => ∃ (ms' : List Int) (la : Int) (v3 v4 v5 v6 : Option V), σ = [some (.ref a), some (.int many), some (.ref l), v3, v4, v5, v6, some (.int (ms.length : Int)), some (.int la)] ∧ Same H H' ∧ H' l = some (.lst (ms'.map V.int)) ∧ ms'.length = ms.length + i ∧ (∀ z ∈ ms', 0 ≤ z ∧ z < 4294967296))
        ⟨ms, _, _, _, _, _, rfl, s1, e1, rfl, ok⟩ ?_ ?_⟩
      · rintro i σ H1 hi ⟨ms', la, v3, v4, v5, v6, rfl, s1, e1, ln, ok⟩
        have hlm' : (ms'.map V.int).length = ms'.length := List.length_map ..
        have rest : ∀ la v4 v5 v6, _ := fun (la : Int) (v4 v5 v6 : Option V) => (fun (pp : _ ∧ _ ∧ _) => (⟨ms' ++ [_], _, _, _, _, _, rfl, pp.1, pp.2.1, (by rw [List.length_append, List.length_singleton]; omega), pp.2.2⟩ : ∃ (ms'' : List Int) (la' : Int) (w3 w4 w5 w6 : Option V), [some (.ref a), some (.int many), some (.ref l), some (.int ((0 : Int) + (i : Int))), v4, v5, v6, some (.int (ms.length : Int)), some (.int ((la * 48271 + ((0 : Int) + (i : Int))) % 2147483647))] = [some (.ref a), some (.int many), some (.ref l), w3, w4, w5, w6, some (.int (ms.length : Int)), some (.int la')] ∧ Same H (upd H1 l (.lst (ms'.map V.int ++ [.int ((la * 48271 + ((0 : Int) + (i : Int))) % 2147483647 / 7)]))) ∧ (upd H1 l (.lst (ms'.map V.int ++ [.int ((la * 48271 + ((0 : Int) + (i : Int))) % 2147483647 / 7)]))) l = some (.lst (ms''.map V.int)) ∧ ms''.length = ms.length + (i + 1) ∧ (∀ z ∈ ms'', 0 ≤ z ∧ z < 4294967296))) (push H1 ms' ((la * 48271 + ((0 : Int) + (i : Int))) % 2147483647 / 7) s1 ok (by omega))
        refine ⟨_, rfl, _, _, rfl, rfl, _, rfl, ?_⟩
        have last : ∀ la v4 v5 v6, (fun σ H' => ∃ (ms' : List Int) (la : Int) (v3 v4 v5 v6 : Option V), σ = [some (.ref a), some (.int many), some (.ref l), v3, v4, v5, v6, some (.int (ms.length : Int)), some (.int la)] ∧ Same H H' ∧ H' l = some (.lst (ms'.map V.int)) ∧ ms'.length = ms.length + (i + 1) ∧ (∀ z ∈ ms', 0 ≤ z ∧ z < 4294967296)) [some (.ref a), some (.int many), some (.ref l), some (.int ((0 : Int) + (i : Int))), v4, v5, v6, some (.int (ms.length : Int)), some (.int ((la * 48271 + ((0 : Int) + (i : Int))) % 2147483647))] (upd H1 l (.lst (ms'.map V.int ++ [.int ((la * 48271 + ((0 : Int) + (i : Int))) % 2147483647 / 7)]))) := rest
        refine ite2 (fun c1 => ?_) (fun c1 => ?_)
        · have c1 : (0 : Int) < (ms.length : Int) := by simpa using c1
          have q0 := Int.emod_nonneg ((0 : Int) + (i : Int)) (show (ms.length : Int) ≠ 0 by omega)
          have q1 := Int.emod_lt_of_pos ((0 : Int) + (i : Int)) c1
          have lt : (((0 : Int) + (i : Int)) % (ms.length : Int)).toNat < ms'.length := by omega
          refine ⟨_, rfl, _, rfl, _, rfl, _, rfl, _, _, rfl, rfl, c1, .inl ⟨l, _, _, _, rfl, rfl, SqL.of e1, atI_get? q0 (List.getElem?_eq_getElem lt), _, _, rfl, rfl, ?_⟩⟩
          refine ⟨_, rfl, _, _, rfl, rfl, .inr ⟨by decide, by decide⟩, _, rfl, _, _, rfl, rfl, .inl ⟨_, rfl, _, _, rfl, rfl, (by show (0 : Int) < 2147483647; decide), ?_⟩⟩
          refine ⟨_, rfl, .inl ⟨rfl, _, SqL.of e1⟩, _, rfl, _, _, rfl, rfl, ⟨by decide, by decide⟩, l, _, _, rfl, rfl, e1, ?_, last _ _ _ _⟩
          rw [hlm']
          exact Nat.lt_of_le_of_lt (by omega : ms'.length ≤ 4000) (by decide)
        · refine ⟨_, rfl, _, _, rfl, rfl, .inr ⟨by decide, by decide⟩, _, rfl, _, _, rfl, rfl, .inl ⟨_, rfl, _, _, rfl, rfl, (by show (0 : Int) < 2147483647; decide), ?_⟩⟩
          refine ⟨_, rfl, .inl ⟨rfl, _, SqL.of e1⟩, _, rfl, _, _, rfl, rfl, ⟨by decide, by decide⟩, l, _, _, rfl, rfl, e1, ?_, last _ _ _ _⟩
          rw [hlm']
          exact Nat.lt_of_le_of_lt (by omega : ms'.length ≤ 4000) (by decide)
      · rintro σ H1 ⟨ms', la, v3, v4, v5, v6, rfl, s1, e1, ln, ok⟩
        have full : (ms'.length : Int) = many := by omega
        have hcut : cutV (ms'.map V.int) none (some many) = ms'.map V.int := by
          rw [← full]
          show ((ms'.map V.int).drop 0).take (HT.sIx (ms'.map V.int).length (ms'.map V.int).length (some ((ms'.length : Nat) : Int)) - 0) = _
          rw [HT.sIx_nat, List.drop_zero, Nat.sub_zero, List.length_map, Nat.min_self]
          exact List.take_of_length_le (by rw [List.length_map]; exact Nat.le_refl _)
        refine ⟨_, rfl, _, rfl, many, rfl, l, _, rfl, SqL.of e1, fun d hd => ?_⟩
        rw [hcut]
        exact fin ms' _ d ⟨full, ok⟩ (same_upd s1 hd) (s1.free hd) upd_same
end
end K25

set_option Elab.async false
set_option linter.all false
set_option maxRecDepth 100000
set_option maxHeartbeats 4000000
namespace K25
open PySem PySem.Spec PyProof.Rows L2 Mz
section
variable {P : Program} {w : World} {K : PySem.W.Frag} {mg : Str → Option Value} {base : Heap} {A : Ads}
theorem ok_machine (T : Txt K mg A) : FnOk P w K mg base CX0 1 A.a_law_machine A.d_law_machine ["numbers", "at", "letters", "outs", "states"] (spMachine K) := by
  refine T.F_law_machine.ok sc_law_machine (fun vs H Q E h => ?_) (fun cdv Ar outer s H vs Q E hr h => ?_)
  · obtain ⟨_, _, _, _, _, _, rfl, _⟩ := h
    rfl
  · obtain ⟨p, ms, i, k, o, n, rfl, hS, hm, hn, hk, ho, fin⟩ := h
    refine ⟨_, (pss_cons (ps_set (i := 5) sc_law_machine.nd rfl (Or.inl rfl) (pe_lst pa_nil))
      (pss_cons (ps_set (i := 6) sc_law_machine.nd rfl (Or.inl rfl) (pe_lst pa_nil))
      (pss_cons (ps_for PassesOwn.never rfl (pi_range1 (by rfl) T.n_range (pa_cons (pv 4) pa_nil)) (pg_name (i := 7) sc_law_machine.nd rfl (Or.inr rfl))
        (pss_cons (ps_setLc (i := 8) (own := [("letter", 9)]) (g := (gName 9)) (tt := tYes) rfl sc_law_machine.nd rfl rfl (sw_true rfl rfl rfl (by decide +kernel)) (pi_range1 (by rfl) T.n_range (pa_cons (pv 2) pa_nil)) (blkOk_by (N := ["numbers", "at", "letters", "outs", "states", "moves", "outputs", "state", "row", "letter"]) (sc := defScope s_law_machine) (by decide +kernel)) (fun _ _ _ _ _ => (pg_name (i := 9) sc_law_machine.nd rfl (Or.inl rfl))) (fun _ _ _ _ _ => pts_nil) (fun _ _ _ _ _ => (pe_op op_mod (pe_op op_fdiv (pe_ix (r := rIx K) ix_seq (pv 0) (pe_op op_mod (pe_callTy (T := "int") call_int1 (by rfl) T.n_int (by decide +kernel) (pa_cons (pe_op op_add (pe_op op_add (pv 1) (pe_op op_mul (pv 7) (pv 2))) (pv 9)) pa_nil)) (pe_callB (r := rLenK K) call_lenK (by rfl) T.n_len PySem.boot_len (pa_cons (pv 0) pa_nil))) (fun _ _ => rfl)) pe_int) (pv 4))))
          (pss_cons (ps_expr (pe_bm PySem.F.plainAttrs_list PySem.F.slot_list_append PySem.F.type_list_append mt_append (pv 5) (pa_cons (pe_callTy call_tuple_of (by rfl) T.n_tuple (by decide +kernel) (pa_cons (pv 8) pa_nil)) pa_nil)))
          (pss_one (ps_expr (pe_bm PySem.F.plainAttrs_list PySem.F.slot_list_append PySem.F.type_list_append mt_append (pv 6) (pa_cons (pe_op op_mod (pe_op op_fdiv (pe_ix (r := rIx K) ix_seq (pv 0) (pe_op op_mod (pe_callTy call_int1 (by rfl) T.n_int (by decide +kernel) (pa_cons (pe_op op_add (pe_op op_add (pv 1) pe_int) (pv 7)) pa_nil)) (pe_callB (r := rLenK K) call_lenK (by rfl) T.n_len PySem.boot_len (pa_cons (pv 0) pa_nil))) (fun _ _ => rfl)) pe_int) (pv 3)) pa_nil)))))))
      (pss_one (ps_ret (pe_tup (pa_cons (pv 2) (pa_cons (pv 3) (pa_cons (pe_callTy call_tuple_of (by rfl) T.n_tuple (by decide +kernel) (pa_cons (pv 5) pa_nil)) (pa_cons (pe_callTy call_tuple_of (by rfl) T.n_tuple (by decide +kernel) (pa_cons (pv 6) pa_nil)) pa_nil)))))))))), ?_⟩
    have hlm : (ms.map V.int).length = ms.length := List.length_map ..
    refine ⟨Nat.zero_le _, fun l1 hl1 => ?_⟩
    refine ⟨Nat.zero_le _, fun l2 hl2 => ?_⟩
    have l21 : l2 ≠ l1 := fun z => by
      rw [z, upd_same] at hl2
      cases hl2
    have s1 : Same H (upd H l1 (.lst [])) := same_upd (Same.refl H) hl1
    have s2 : Same H (upd (upd H l1 (.lst [])) l2 (.lst [])) := same_upd s1 hl2
    have hl20 : H l2 = none := s1.free hl2
    refine ⟨_, rfl, n, rfl, by omega, by omega, ?_⟩
    -- the rows made so far
    refine for_range (fun j σ H' => ∃ (rs : List Addr) (rows : List (List Int)) (os : List Int) (v7 v8 : Option V), σ = [some (.ref p), some (.int i), some (.int k), some (.int o), some (.int n), some (.ref l1), some (.ref l2), v7, v8, none] ∧ Same H H' ∧ H' l1 = some (.lst (rs.map V.ref)) ∧ H' l2 = some (.lst (os.map V.int)) ∧
        rows.length = j ∧ rs.length = rows.length ∧ (∀ (i : Nat) (r : Addr) (w : List Int), rs[i]? = some r → rows[i]? = some w → IT H' r w) ∧ os.length = j ∧ (∀ w ∈ rows, (w.length : Int) = k) ∧ (∀ w ∈ rows, ∀ z ∈ w, 0 ≤ z ∧ z < n) ∧ (∀ z ∈ os, 0 ≤ z ∧ z < o))
      ⟨[], [], [], none, none, rfl, s2, (by rw [upd_ne l21.symm]; exact upd_same), upd_same, rfl, rfl, (fun i r w e => by simp at e), rfl, (fun w hw => absurd hw (by simp)), (fun w hw => absurd hw (by simp)), fun z hz => absurd hz (by simp)⟩ ?_ ?_
    · rintro j σ H' hj ⟨rs, rows, os, v7, v8, rfl, s3, e1, e2, c1, c2, c3, c4, c5, c6, c7⟩
      have j30 : j < 30 := by omega
      have pick : ∀ (x : Int) (H1 : Hp) (Q : VK), Same H H1 → (∀ z, Q (.int z) H1) → rIx K (.ref p) (.int (x % (ms.length : Int))) H1 Q := fun x H1 Q sm q => by
        have q0 := Int.emod_nonneg x (show (ms.length : Int) ≠ 0 by omega)
        have q1 := Int.emod_lt_of_pos x (show (0 : Int) < (ms.length : Int) by omega)
        have lt : (x % (ms.length : Int)).toNat < ms.length := by omega
        exact .inl ⟨p, _, _, _, rfl, rfl, sm.seq hS, atI_get? q0 (List.getElem?_eq_getElem lt), q _⟩
      refine ⟨_, rfl, k, rfl, by omega, by omega, ?_⟩
      intro D hD
      have Dl1 : D ≠ l1 := fun z => by
        rw [z, e1] at hD
        cases hD
      have Dl2 : D ≠ l2 := fun z => by
        rw [z, e2] at hD
        cases hD
      have HD : H D = none := s3.free hD
      refine lc_range (fun t H1 => ∃ w : List Int, Same H' H1 ∧ H1 = upd H' D (.lst (w.map V.int)) ∧ w.length = t ∧ ∀ z ∈ w, 0 ≤ z ∧ z < n) ⟨[], same_upd (Same.refl _) hD, rfl, rfl, fun z hz => absurd hz (by simp)⟩ ?_ ?_
      · rintro t H1 ht ⟨w1, s4, rfl, d1, d2⟩
        have t4 : t < 4 := by omega
        refine ⟨rfl, ?_⟩
        have s34 := s3.trans s4
        refine ⟨_, rfl, _, rfl, _, rfl, _, rfl, _, _, rfl, rfl, .inl ⟨by omega, by omega⟩, _, _, rfl, rfl, _, rfl, _, _, rfl, rfl, ?_⟩
        refine .inl ⟨_, rfl, _, rfl, p, _, rfl, .inl (s34.seq hS), _, _, rfl, rfl, (by show (0 : Int) < (((ms.map V.int).length : Nat) : Int); rw [hlm]; omega), ?_⟩
        rw [hlm]
        refine pick _ _ _ s34 fun z => ?_
        refine ⟨_, _, rfl, rfl, ⟨by decide, by decide⟩, _, rfl, _, _, rfl, rfl, (by show (0 : Int) < n; omega), ?_⟩
        refine ⟨_, upd_same, ?_, w1 ++ [_], ?_, (by rw [upd_upd, List.map_append]; rfl), (by rw [List.length_append, d1]; rfl), ?_⟩
        · rw [List.length_map]
          exact Nat.lt_of_le_of_lt (by omega : w1.length ≤ 4) (by decide)
        · rw [upd_upd]
          exact same_upd (Same.refl _) hD
        · intro z hz
          rcases List.mem_append.mp hz with e | e
          · exact d2 z e
          · rw [List.mem_singleton.mp e]
            exact ⟨Int.emod_nonneg _ (by omega), Int.emod_lt_of_pos _ (by omega)⟩
      · rintro H1 ⟨w1, s4, rfl, d1, d2⟩
        refine ⟨_, rfl, .inl ⟨rfl, _, SqL.of (s4 _ _ e1)⟩, _, rfl, D, _, rfl, .inl ⟨SqL.of upd_same, fun r hr' => ?_⟩⟩
        have rD : r ≠ D := fun z => by
          rw [z, upd_same] at hr'
          cases hr'
        have r0 : H' r = none := s4.free hr'
        have rl1 : r ≠ l1 := fun z => by
          rw [z, e1] at r0
          cases r0
        have rl2 : r ≠ l2 := fun z => by
          rw [z, e2] at r0
          cases r0
        have s5 : Same H' (upd (upd H' D (.lst (w1.map V.int))) r (.tup (w1.map V.int))) := same_upd s4 hr'
        refine ⟨l1, _, _, rfl, rfl, (by rw [upd_ne rl1.symm, upd_ne Dl1.symm]; exact e1), ?_, ?_⟩
        · rw [List.length_map]
          exact Nat.lt_of_le_of_lt (by omega : rs.length ≤ 30) (by decide)
        have hl1r : (upd (upd (upd H' D (.lst (w1.map V.int))) r (.tup (w1.map V.int))) l1 (.lst (rs.map V.ref ++ [.ref r]))) l2 = some (.lst (os.map V.int)) := by
          rw [upd_ne l21, upd_ne rl2.symm, upd_ne Dl2.symm]
          exact e2
        have s6 : Same H (upd (upd (upd H' D (.lst (w1.map V.int))) r (.tup (w1.map V.int))) l1 (.lst (rs.map V.ref ++ [.ref r]))) := same_set (s3.trans s5) hl1
        refine ⟨_, rfl, .inl ⟨rfl, _, SqL.of hl1r⟩, ?_⟩
        refine ⟨_, rfl, _, rfl, _, _, rfl, rfl, _, rfl, _, _, rfl, rfl, .inl ⟨_, rfl, _, rfl, p, _, rfl, .inl (s6.seq hS), _, _, rfl, rfl, (by show (0 : Int) < (((ms.map V.int).length : Nat) : Int); rw [hlm]; omega), ?_⟩⟩
        rw [hlm]
        refine pick _ _ _ s6 fun z => ?_
        refine ⟨_, _, rfl, rfl, ⟨by decide, by decide⟩, _, rfl, _, _, rfl, rfl, (by show (0 : Int) < o; omega), ?_⟩
        refine ⟨l2, _, _, rfl, rfl, hl1r, ?_, ?_⟩
        · rw [List.length_map]
          exact Nat.lt_of_le_of_lt (by omega : os.length ≤ 30) (by decide)
        refine ⟨rs ++ [r], rows ++ [w1], os ++ [z / 5 % o], _, _, rfl, same_set s6 hl20, ?_, ?_, by rw [List.length_append, c1]; rfl, by rw [List.length_append, List.length_append, c2]; rfl, ?_, by rw [List.length_append, c4]; rfl, ?_, ?_, ?_⟩
        · rw [upd_ne l21.symm, upd_same, List.map_append]
          rfl
        · rw [upd_same, List.map_append]
          rfl
        · intro i' r' w' h1 h2
          have keep : ∀ (a : Addr) (u : HO), H' a = some u → a ≠ l1 → a ≠ l2 → (upd (upd (upd (upd H' D (.lst (w1.map V.int))) r (.tup (w1.map V.int))) l1 (.lst (rs.map V.ref ++ [.ref r]))) l2 (.lst (os.map V.int ++ [.int (z / 5 % o)]))) a = some u := fun a u e n1 n2 => by
            rw [upd_ne n2, upd_ne n1]
            exact s5 a u e
          by_cases z : i' < rows.length
          · rw [List.getElem?_append_left (by omega)] at h1
            rw [List.getElem?_append_left z] at h2
            have q1 := c3 i' r' w' h1 h2
            refine keep r' _ q1 (fun z => ?_) (fun z => ?_)
            · rw [z] at q1
              have q2 := e1.symm.trans q1
              cases q2
            · rw [z] at q1
              have q2 := e2.symm.trans q1
              cases q2
          · obtain ⟨lt, _⟩ := List.getElem?_eq_some_iff.mp h2
            rw [List.length_append, List.length_singleton] at lt
            have e : i' = rows.length := by omega
            subst e
            rw [List.getElem?_append_right (by omega)] at h1
            rw [List.getElem?_append_right (Nat.le_refl _)] at h2
            rw [c2, Nat.sub_self] at h1
            rw [Nat.sub_self] at h2
            cases h1
            cases h2
            show upd (upd _ l1 _) l2 _ r = _
            rw [upd_ne rl2, upd_ne rl1, upd_same]
        · intro w' hw
          rcases List.mem_append.mp hw with e | e
          · exact c5 w' e
          · rw [List.mem_singleton.mp e]
            omega
        · intro w' hw
          rcases List.mem_append.mp hw with e | e
          · exact c6 w' e
          · rw [List.mem_singleton.mp e]
            exact d2
        · intro z hz
          rcases List.mem_append.mp hz with e | e
          · exact c7 z e
          · rw [List.mem_singleton.mp e]
            exact ⟨Int.emod_nonneg _ (by omega), Int.emod_lt_of_pos _ (by omega)⟩
    · rintro σ H' ⟨rs, rows, os, v7, v8, rfl, s3, e1, e2, c1, c2, c3, c4, c5, c6, c7⟩
      refine ⟨_, rfl, _, rfl, _, rfl, l1, _, rfl, .inl ⟨SqL.of e1, fun mv hmv => ?_⟩⟩
      have s4 : Same H' (upd H' mv (.tup (rs.map V.ref))) := same_upd (Same.refl _) hmv
      refine ⟨_, rfl, l2, _, rfl, .inl ⟨SqL.of (s4 _ _ e2), fun ou hou => ?_⟩⟩
      have s5 : Same H' (upd (upd H' mv (.tup (rs.map V.ref))) ou (.tup (os.map V.int))) := same_upd s4 hou
      refine ⟨(by show 4 ≤ sizeLine; decide), fun m hm' => ?_⟩
      have s6 := same_upd (o := .tup [.int k, .int o, .ref mv, .ref ou]) s5 hm'
      have hmH : H m = none := (s3.trans s5).free hm'
      refine fin ⟨k, o, rows, os⟩ _ m ⟨by show 1 ≤ k; omega, by show k ≤ 4; omega, by show 1 ≤ o; omega, by show o ≤ 6; omega, by show 1 ≤ rows.length; omega, by show rows.length ≤ 30; omega, by show os.length = rows.length; omega, c5, ?_, c7⟩ rfl rfl ?_ (s3.trans s6) ⟨mv, ou, rs, ?_⟩ hmH
      · intro w hw z hz
        have := c6 w hw z hz
        show 0 ≤ z ∧ z < (rows.length : Int)
        omega
      · show (rows.length : Int) = n
        omega
      · have mo : ou ≠ mv := fun z => by
          rw [z, upd_same] at hou
          cases hou
        have m1 : mv ≠ m := fun z => by
          rw [← z, upd_ne mo.symm, upd_same] at hm'
          cases hm'
        have m2 : ou ≠ m := fun z => by
          rw [← z, upd_same] at hm'
          cases hm'
        exact ⟨upd_same, by rw [upd_ne m1, upd_ne mo.symm, upd_same], by show upd _ m _ ou = _; rw [upd_ne m2, upd_same], c2, fun i r w a b => s6 _ _ (c3 i r w a b)⟩
end
end K25

set_option Elab.async false
set_option linter.all false
set_option maxRecDepth 100000
set_option maxHeartbeats 4000000
/-! try: .. except A as e: .. except B: .. : the first handler with a name, the others without -/
namespace Mz
open PySem PySem.Spec PyProof.Rows L2 L2N
/-- what a suite's end says of the try -/
theorem suite_end {X : Cx} {pins : List (Addr × Obj)} {a : Addr} {oe : Obj} (o : X.Ok) {D : Ends} {fl : Flow} {t : Shared} (z : SP (X.suite a ((a, oe) :: (X.pn ++ pins))) [] D fl t) : SP X pins D fl t := by
  cases fl with
  | next => exact (let ⟨σ1, G1, J, q⟩ := z; ⟨σ1, G1, J.unsuite o, q⟩)
  | brk => exact (let ⟨σ1, G1, J, q⟩ := z; ⟨σ1, G1, J.unsuite o, q⟩)
  | cont => exact (let ⟨σ1, G1, J, q⟩ := z; ⟨σ1, G1, J.unsuite o, q⟩)
  | ret u => exact (let ⟨v, σ1, G1, J, r, q⟩ := z; ⟨v, σ1, G1, J.unsuite o, r, q⟩)
section
variable {X : Cx} {x n : Str} {c : Value} {i : Nat} {body suite : List Stmt} {b₀ : Stmt} {np pos pos' : Pos} {tb : WX → TS} {ts : Addr → Value → Option Addr → TS} {Wout : WX} {hds : List ExceptHandler} {l : List (Value × (Addr → Value → Option Addr → TS))}
theorem ps_try_as_many (stk : X.stack = X.env :: X.outer) (own : X.env.frame = some X.env.locals) (nod : X.N.Nodup) (slot : X.N[i]? = some n) (loc : X.env.kindOf n = some .local) (nm : Names X x c) (out : L2N.Takes X Wout)
    (hbody : ∀ (W : WX) (pn : List (Addr × Obj)) (xe : Value → Shared → Prop), L2N.Takes (X.tr pn xe) W → PassesOwn (model X.prog X.w) X.A X.env xe → PSs (X.tr pn xe) body (tb W))
    (hfirst : ∀ (a : Addr) (oe : Obj) (cls : Value) (d : Option Addr) (pn : List (Addr × Obj)), Zn cls d oe → (∃ vs, oe.data = .fields vs) → PSs (X.suite a ((a, oe) :: pn)) (b₀ :: suite) (ts a cls d))
    (rest : L2N.HdsOk X hds l) : PS X (.Try body (.ExceptHandler (some (.Name x np)) (some n) (b₀ :: suite) pos' :: hds) [] [] pos) (fun D σ H => tb (wAs X.K c i ts (wMany X.K Wout D l) D) D σ H) := by
  refine ⟨fun pins s0 σ0 H0 D I0 start => ?_⟩
  have ok := I0.ok
  have frm : X.A.frames = some (X.env :: X.outer) := ok.frames.trans (congrArg some stk)
  refine wpAny_Try_except (wpAny_mono ((hbody (wAs X.K c i ts (wMany X.K Wout D l) D) (X.pn ++ pins) (fun e t1 => wpAny (model X.prog X.w) X.A (noteFrame e X.env) (fun _ t2 => wpAny (model X.prog X.w) X.A (setFlight e none) (fun _ t3 =>
    wpAny (model X.prog X.w) X.A (handleBy e X.env (.ExceptHandler (some (.Name x np)) (some n) (b₀ :: suite) pos' :: hds)) (SP X pins D) X.xe t3) X.xe t2) X.xe t1) (fun u t caught => ?_) PassesOwn.looking).run [] s0 σ0 H0 D (I0.toTry _) start) (fun fl t z => ?_) (fun _ _ e => e))
  · obtain ⟨a, B, tI, pins1, σ1, G1, cls, d, rfl, J1, nb, up, inSky, free, os, ag, b, hit, yes, no⟩ := caught
    have J : Inv X pins σ1 G1 tI := J1.ofTry ok
    refine Sky.land Zn.steady frm own (by rw [← stk]; exact inSky) fun g down up2 => ?_
    have JL : Inv X pins σ1 G1 { t with heap := g } := J.landed nb down.1 (up.trans up2) os ag
    obtain ⟨oe, vs, at_, zn, dat⟩ := down.there
    have out1 : a ∉ frs (X.env :: X.outer) := fun hm => by
      obtain ⟨_, o2, e2, z2⟩ := down.2.2.1.mem hm
      rw [at_] at e2
      cases e2
      exact z2 _ dat
    have notL : a ≠ X.env.locals := fun z => out1 (List.mem_filterMap.mpr ⟨X.env, List.mem_cons_self, by rw [own, z]⟩)
    have notF : a ∉ X.fs := fun hm => (List.mem_filterMap.mp hm).elim fun e q => out1 (List.mem_filterMap.mpr ⟨e, List.mem_cons_of_mem _ q.1, q.2⟩)
    have JS := JL.suite at_ dat free notL notF
    have ask : ∀ {y : Str} {k : Value} {q : Pos} {R : Value → Shared → Prop} {E : Value → Shared → Prop}, Names X y k → R k { t with heap := g } → wpAny (model X.prog X.w) (X.A.mark (some (.ref a))) (eval (.Name y q) X.env) R E { t with heap := g } := fun {y k q R E} nk r => by
      obtain ⟨g1, g2, g3 | ⟨g3, g4, g5⟩⟩ := nk
      · exact ld_glob (X := X.suite a ((a, oe) :: (X.pn ++ pins))) JS g1 g3 r g2
      · exact ld_blt (X := X.suite a ((a, oe) :: (X.pn ++ pins))) JS g1 g3 g4 r g5 g2
    have kind : PySem.W.Looks (model X.prog X.w) g (typeOf (.ref a)) cls := fun _ _ _ _ kp r => wpAny_typeOf_ref (kp _ _ at_) (zn.1.symm ▸ r)
    -- the handlers behind the first
    have behind : ∀ {hs2 : List ExceptHandler} {l2 : List (Value × (Addr → Value → Option Addr → TS))}, L2N.HdsOk X hs2 l2 → wMany X.K Wout D l2 cls d σ1 G1 → wpAny (model X.prog X.w) X.A (handleBy (.ref a) X.env hs2) (SP X pins D) X.xe { t with heap := g } := by
      intro hs2 l2 hk
      induction hk with
      | nil =>
        intro w
        obtain ⟨_, _, _, oe1, vs1, T, oT, ts1, e1, _, e3, e4, _⟩ := id down
        refine wpAny_handleBy_nil ?_
        unfold PySem.passOn
        refine wpAny_bind (wpAny_field e1 e3 e4 ?_)
        rw [if_neg (by simp : ¬ ((Value.ref T == Value.none) = true))]
        have go : wpAny (model X.prog X.w) X.A (setFlight (.ref a) X.env.frame) (fun _ t4 => wpAny (model X.prog X.w) X.A (throw (.ref a) : Sem Flow) (SP X pins D) X.xe t4) X.xe { t with heap := g } := by
          rw [own]
          exact HandSPX.setFlight_upZ down fun g4 sky4 up4 => wpAny_throw (out _ _ ⟨a, B, tI, pins, σ1, G1, cls, d, rfl, J, nb, (up.trans up2).trans up4, .inr (.inr (by rw [stk]; exact sky4)), free, os, ag, w⟩)
        first
          | exact wpAny_bind (wpAny_pure (wpAny_bind go))
          | exact wpAny_bind go
      | @cons y k ts2 b2 suite2 np2 pos2 hs3 l3 nk hs r ih =>
        rintro ⟨b2, hit2, yes2, no2⟩
        refine wpAny_handleBy_cons (codeAny_handlers_test (ask nk ((PySem.W.exm_one (M := model X.prog X.w) JL.kIn kind hit2).here ?_))) (by intro q; cases q)
        cases b2 with
        | false =>
          show wpAny _ X.A (handleBy (.ref a) X.env hs3) _ _ _
          exact ih (no2 rfl)
        | true =>
          refine codeAny_handlers_suite (HandSPX.lands_againZ down fun g4 down4 up4 => ?_)
          obtain ⟨oe4, vs4, at4, zn4, dat4⟩ := down4.there
          have J4 : Inv X pins σ1 G1 { t with heap := g4 } := J.landed nb down4.1 ((up.trans up2).trans up4) os ag
          exact wpAny_mono ((hs a oe4 cls d (X.pn ++ pins) zn4 ⟨_, dat4⟩).run [] _ _ G1 _ (J4.suite at4 dat4 free notL notF) (yes2 rfl a free)) (fun fl t6 z => suite_end ok z) fun _ _ z => z.elim
    refine wpAny_handleBy_cons (codeAny_handlers_test (ask nm ((PySem.W.exm_one (M := model X.prog X.w) JL.kIn kind hit).here ?_))) (by intro q; cases q)
    cases b with
    | false =>
      show wpAny _ X.A (handleBy (.ref a) X.env hds) _ _ _
      exact behind rest (no rfl)
    | true =>
      refine codeAny_handlers_suite_as (HandSPX.lands_againZ down fun g4 down4 up4 => ?_)
      obtain ⟨oe4, vs4, at4, zn4, dat4⟩ := down4.there
      have J4 : Inv X pins σ1 G1 { t with heap := g4 } := J.landed nb down4.1 ((up.trans up2).trans up4) os ag
      refine store_ok (X := X.suite a ((a, oe4) :: (X.pn ++ pins))) (v := .ref a) (J4.suite at4 dat4 free notL notF) nod slot (.inl loc) rfl (fun t5 J5 => ?_) (.inr loc)
      refine wpAny_mono ((hfirst a oe4 cls d (X.pn ++ pins) zn4 ⟨_, dat4⟩).run [] t5 _ G1 _ J5 (yes rfl a free)) (fun fl t6 z => ?_) fun _ _ z => z.elim
      have unbind : ∀ {σ6 : L2.St} {G6 : Hp} {R : Shared → Prop}, Inv (X.suite a ((a, oe4) :: (X.pn ++ pins))) [] σ6 G6 t6 → (∀ t7, Inv X pins (σ6.set i none) G6 t7 → R t7) → wpAny (model X.prog X.w) X.A (do bindName X.env n .none; unbindBehindTheSuite X.env n pos') (fun _ t7 => R t7) X.xe t6 :=
        fun J6 r => gone_ok (J6.unsuite ok) nod slot loc r
      cases fl with
      | next => exact (let ⟨σ6, G6, J6, q⟩ := z; unbind J6 fun t7 J7 => ⟨_, _, J7, q⟩)
      | brk => exact (let ⟨σ6, G6, J6, q⟩ := z; unbind J6 fun t7 J7 => ⟨_, _, J7, q⟩)
      | cont => exact (let ⟨σ6, G6, J6, q⟩ := z; unbind J6 fun t7 J7 => ⟨_, _, J7, q⟩)
      | ret u => exact (let ⟨v, σ6, G6, J6, r, q⟩ := z; unbind J6 fun t7 J7 => ⟨_, _, _, J7, r, q⟩)
  · cases fl with
    | next => exact wpAny_execs_nil (let ⟨σ1, G1, J, q⟩ := z; ⟨σ1, G1, J.ofTry ok, q⟩)
    | brk => exact (let ⟨σ1, G1, J, q⟩ := z; ⟨σ1, G1, J.ofTry ok, q⟩)
    | cont => exact (let ⟨σ1, G1, J, q⟩ := z; ⟨σ1, G1, J.ofTry ok, q⟩)
    | ret u => exact (let ⟨v, σ1, G1, J, r, q⟩ := z; ⟨v, σ1, G1, J.ofTry ok, r, q⟩)
end
end Mz

set_option Elab.async false
set_option linter.all false
set_option maxRecDepth 100000
set_option maxHeartbeats 4000000
/-! enumerate of a tuple -/
namespace Mz
open PySem PySem.Spec PyProof.Rows L2
theorem enumT_made (t : Addr) (items : Array Value) (n : Nat) (dct : Option Addr) (sl : Array (Option Value)) :
    Meets (Builtin.«enumerate.__new__» ⟨[.type "enumerate", .ref t], []⟩) (fun _ R s => s.heap.get? t = some { cls := .type "tuple", dict := dct, data := .seq items n, slots := sl } ∧
      R (.ok (.ret (.ref (s.heap.push { cls := .type "tuple_iterator", data := .fields #[.ref t, .int 0 0] }).objs.size)))
        { s with heap := (s.heap.push { cls := .type "tuple_iterator", data := .fields #[.ref t, .int 0 0] }).push { cls := .type "enumerate", data := .fields #[.none, .bool false, .ref s.heap.objs.size, rawInt 0, .none, .none] } }) :=
  .of_wp fun prog w A R s h => by
    obtain ⟨hp, g, d, tk, os⟩ := s
    obtain ⟨ht, r⟩ := h
    have sub := sub_enumerate
    have isT : Heap.IsTuple (Shared.heap ⟨hp, g, d, tk, os⟩) t items := ⟨_, ht, rfl, n, rfl⟩
    wp_walk using AutoSeq1.wpAny_loadPart' ht
    refine wpAny_stack_any fun st => wpAny_pure ?_
    split
    · rename_i c _ _ _ _ _
      cases (c == Value.type "enumerate")
      · wp_walk using AutoSeq1.wpAny_loadPart' ht, wpAny_pyIter_tuple isT
        exact ⟨_, rfl, r⟩
      · wp_walk using AutoSeq1.wpAny_loadPart' ht, wpAny_pyIter_tuple isT
        exact ⟨_, rfl, r⟩
    · wp_walk using AutoSeq1.wpAny_loadPart' ht, wpAny_pyIter_tuple isT
      exact ⟨_, rfl, r⟩
theorem call_enumT {prog : Program} {w : World} {A : Around} {E : Value → Shared → Prop} {s : Shared} {t : Addr} {items : Array Value} {Q : Value → Shared → Prop} (isT : s.heap.IsTuple t items)
    (k : ∀ g, IsEnum g (s.heap.objs.size + 1) s.heap.objs.size 0 .none → g.IsTupleIter s.heap.objs.size t 0 → (∀ b o, s.heap.get? b = some o → g.get? b = some o) → Q (.ref (s.heap.objs.size + 1)) { s with heap := g }) :
    wpAny (model prog w) A (call (.type "enumerate") [.ref t]) Q E s := by
  obtain ⟨⟨c, dct, dt, sl⟩, at_, hc, n, hd⟩ := isT
  obtain rfl : c = .type "tuple" := hc
  obtain rfl : dt = .seq items n := hd
  refine callType_new PySem.F.called_enumerate (by decide) (PySem.F.typeCall_enumerate_1 _) (PySem.F.newCall_enumerate_1 _) (fun obj => PySem.F.args_object_init_2 obj _) PySem.F.entry_enumerate_new (enumT_made t items n dct sl) ⟨at_, ?_⟩
  have size1 : (s.heap.push { cls := .type "tuple_iterator", data := .fields #[.ref t, .int 0 0] }).objs.size = s.heap.objs.size + 1 := Heap.size_push ..
  show _ ∧ _
  rw [size1]
  have en : IsEnum ((s.heap.push { cls := .type "tuple_iterator", data := .fields #[.ref t, .int 0 0] }).push { cls := .type "enumerate", data := .fields #[.none, .bool false, .ref s.heap.objs.size, rawInt 0, .none, .none] }) (s.heap.objs.size + 1) s.heap.objs.size 0 .none := by
    have z := Heap.get?_push_size (s.heap.push { cls := .type "tuple_iterator", data := .fields #[.ref t, .int 0 0] }) (o := { cls := .type "enumerate", data := .fields #[.none, .bool false, .ref s.heap.objs.size, rawInt 0, .none, .none] }) rfl
    rw [size1] at z
    exact z
  exact ⟨⟨_, en, rfl⟩, k _ en ⟨_, Heap.get?_push_of_some _ (Heap.get?_push_size _ rfl), rfl, rfl⟩ fun b o e => Heap.get?_push_of_some _ (Heap.get?_push_of_some _ e)⟩
/-- the tuple at a, each item in a new pair -/
def IteT (K : PySem.W.Frag) (a : Addr) : It :=
  ⟨fun i H => ∃ (xs : List V) (x : V), SqT K H a xs ∧ xs[i]? = some x, fun i H v H' => ∃ T x, v = .ref T ∧ H T = none ∧ H' = upd H T (.tup [.int (i : Nat), x]) ∧ ∀ xs, SqT K H a xs → xs[i]? = some x, fun i H => ∃ xs : List V, SqT K H a xs ∧ xs.length ≤ i⟩
theorem turn_enumT {P : Program} {w : World} {K : PySem.W.Frag} {elts : List Expr} {kk : Nat} {tpos : Pos} (a e it : Addr) :
    Turn P w K (.Tuple elts kk tpos) (IteT K a) [e, it] e (fun i h => (∃ old, IsEnum h e it ((i : Nat) : Int) old) ∧ h.IsTupleIter it a i ∧ e ≠ it ∧ e ≠ a ∧ a ≠ it) where
  mem := by simp
  obj := fun i h ⟨⟨old, en⟩, ⟨o, at_, _, dat⟩, _⟩ b hb => by
    rcases List.mem_cons.mp hb with z | z
    · rw [z]
      exact ⟨_, en, fun v q => nomatch q⟩
    · rw [List.mem_singleton.mp z]
      exact ⟨o, at_, fun v q => by rw [dat] at q; cases q⟩
  keep := fun i h h' ⟨⟨old, en⟩, ti, rest⟩ k => ⟨⟨old, k e (by simp) _ en⟩, ti.at fun o q => k it (by simp) o q, rest⟩
  item := by
    rintro X rfl rfl rfl calm i pins s σ H E I free ⟨⟨old, en⟩, ti, ne, nea, nai⟩ ⟨xs, x, hq, hx⟩
    obtain ⟨its, rv, p, _⟩ := I.tuple hq
    obtain ⟨u, hu, ru⟩ := rv.get hx
    have tp : s.heap.IsTuple a its.toArray := p
    have ilt : i < its.toArray.size := by
      have := (List.getElem?_eq_some_iff.mp hu).1
      simpa using this
    have elt : e < s.heap.objs.size := Heap.lt_size en
    have tlt : it < s.heap.objs.size := by
      obtain ⟨_, q, _⟩ := ti
      exact Heap.lt_size q
    refine wpAny_pyNext_enum_itemD (Draws.tuple (A := X.A.in1) (I.ok.hd calm) it a nai its.toArray) en ⟨ti, tp⟩ ilt ne (by simp [ne, nea]) fun x' g tk hx' eo st' hT sz kp => ?_
    have ex : x' = u := by
      have q : its.toArray[i]? = some u := by simpa using hu
      rw [q] at hx'
      exact (Option.some.inj hx').symm
    subst ex
    refine ⟨_, rfl, wpAny_letOwnedTupleGo_enum (s := { s with heap := g, toks := tk + 1 }) eo fun g2 en2 sb => ?_⟩
    have hT2 : g2.get? s.heap.objs.size = some { cls := .type "tuple", data := .seq #[.int i tk, x'] } := (sb.2 _ (Nat.ne_of_gt elt)).trans hT
    have new : ObjOk X.prog X.w (upd H s.heap.objs.size (.tup [.int (i : Nat), x])) g2 s.heap.objs.size (.tup [.int (i : Nat), x]) :=
      ⟨by show 2 ≤ sizeLine; decide, [.int i tk, x'], .cons ⟨_, rfl⟩ (.cons ru .nil), ⟨_, hT2, rfl, _, rfl⟩⟩
    have J : Inv X pins σ (upd H s.heap.objs.size (.tup [.int (i : Nat), x])) { s with heap := g2, toks := tk + 1 } :=
      I.turnedNew (ch := [e, it]) (fun b ob hb q => (sb.2 b (fun z => hb (by simp [z]))).trans (kp b ob (fun z => hb (by simp [z])) (fun z => hb (by simp [z])) q)) free (Nat.le_refl _) new
    refine ⟨.ref s.heap.objs.size, _, J, rfl, ⟨_, x, rfl, I.hok.fresh (Nat.le_refl _), rfl, fun ys hy => by rw [I.tuple_inj hy hq]; exact hx⟩, ⟨⟨x', ?_⟩, st'.1.at fun o q => (sb.2 it (Ne.symm ne)).trans q, ne, nea, nai⟩, fun b hb => ?_⟩
    · rw [show ((i + 1 : Nat) : Int) = (i : Int) + 1 by omega]
      exact en2
    · have lt : b < s.heap.objs.size := by
        rcases List.mem_cons.mp hb with z | z
        · rw [z]
          exact elt
        · rw [List.mem_singleton.mp z]
          exact tlt
      rw [upd_ne (Nat.ne_of_lt lt)]
      exact (free b hb).1
  done := by
    rintro X rfl rfl rfl calm i pins s σ H E I free ⟨⟨old, en⟩, ti, ne, nea, nai⟩ ⟨xs, hq, hx⟩
    obtain ⟨its, rv, p, _⟩ := I.tuple hq
    obtain ⟨f0, f1, f2, f3, f4, f5⟩ := free it (by simp)
    have tp : s.heap.IsTuple a its.toArray := p
    have len := rv.length
    have past : its.toArray[i]? = none := by simp; omega
    have kind : s.TypeIs (.ref e) "enumerate" := ⟨_, en, rfl⟩
    have stop : wpAny (model X.prog X.w) X.A.in1 (Builtin.SmallTypes.nextOf (.ref it)) (fun _ _ => False) (fun x s' => ∃ g, x = x ∧ s' = { s with heap := g } ∧ Heap.ExtBut it s.heap g ∧ ∃ e', x = .ref e' ∧ ∃ o, g.get? e' = some o ∧ o.cls = .type "StopIteration") s :=
      wpAny_nextOf_tuple_end (I.ok.hd calm) ti tp past fun g e' eb ⟨o, q1, q2⟩ => ⟨g, rfl, rfl, eb, e', rfl, o, q1, q2⟩
    unfold pyNext
    refine wpAny_bind (wpAny_attempt (wpAny_callSpecial?_slot (name := Str.ofString "__next__") kind PySem.F.slot_enumerate_next (wpAny_call_entry PySem.F.slot_enumerate_next kind PySem.F.entry_enumerate_next ?_ (PySem.F.args_enumerate_next_1 _))))
    show wpAny _ _ (field (.ref e) 2 >>= _) _ _ _
    refine wpAny_bind (wpAny_field en rfl (x := .ref it) rfl (wpAny_bind (wpAny_mono stop (fun _ _ z => z.elim) ?_)))
    rintro x s' ⟨g, _, rfl, eb, e', rfl, o, q1, q2⟩
    refine wpAny_bind (wpAny_isInstance (T := "StopIteration") (b := true) ⟨o, q1, q2⟩ isSubtype_stop ?_)
    exact wpAny_pure ⟨rfl, I.turned (t' := s.toks) (fun b o hb q => eb b o hb q) f0 f1 f3 f4 f5⟩
  self := fun A i s Q E ⟨⟨_, en⟩, _⟩ h => wpAny_pyIter_enum en h
def iEnumT (K : PySem.W.Frag) (ta : TA) : TI := fun σ H R => ta σ H fun vs H1 => ∃ a, vs = [.ref a] ∧ ((∃ xs, SqL K H1 a xs) ∧ R (Ite K a) H1 ∨ (∃ xs, SqT K H1 a xs) ∧ R (IteT K a) H1)
/-- for i, x in enumerate(e), e a list or a tuple -/
theorem pi_enumT {X : Cx} {e : Expr} {ta : TA} {p pos tpos : Pos} {elts : List Expr} {kk : Nat} (hg : Gl X "enumerate") (hm : X.mg "enumerate" = none) (ha : PA X [e] ta) (hs : starEach [e] X.env = [(false, eval e X.env)] := by rfl) :
    PI X (.Tuple elts kk tpos) (.Call (.Name "enumerate" p) [e] [] pos) (iEnumT X.K ta) := by
  refine ⟨fun pins s σ H R I h => Call_ (ld_blt I hg hm boot_enumerate (PyProof.Rows.callWith_type1 (thn (ha.run pos pins s σ H _ I h) fun us s1 ⟨vs, H1, I1, r1, a, ev, q⟩ => ?_) hs rfl))⟩
  subst ev
  obtain ⟨u, rfl, rfl⟩ := vals1 r1
  have below : ∀ b ∈ [s1.heap.objs.size + 1, s1.heap.objs.size], FpOk X pins H1 b := fun b hb => by
    have le : s1.heap.objs.size ≤ b := by
      rcases List.mem_cons.mp hb with z | z
      · omega
      · rw [List.mem_singleton.mp z]
        exact Nat.le_refl _
    exact I1.fpOk le (I1.hok.fresh le)
  rcases q with ⟨⟨xs, hq⟩, q⟩ | ⟨⟨xs, hq⟩, q⟩
  · obtain ⟨its, rv, pl, _⟩ := I1.list hq
    refine call_enumerate_list pl.isList fun g en ti _ kp => wpAny_pyIter_enum en ?_
    exact ⟨_, [s1.heap.objs.size + 1, s1.heap.objs.size], _, _, H1, rfl, I1.kept (t' := s1.toks) kp, turn_enum a _ _, ⟨⟨.none, en⟩, ti, Nat.succ_ne_self _⟩, below, q⟩
  · obtain ⟨its, rv, pl, _⟩ := I1.tuple hq
    have tp : s1.heap.IsTuple a its.toArray := pl
    have alt : a < s1.heap.objs.size := by
      obtain ⟨o, q, _⟩ := id tp
      exact Heap.lt_size q
    refine call_enumT tp fun g en ti kp => wpAny_pyIter_enum en ?_
    exact ⟨_, [s1.heap.objs.size + 1, s1.heap.objs.size], _, _, H1, rfl, I1.kept (t' := s1.toks) kp, turn_enumT a _ _, ⟨⟨.none, en⟩, ti, Nat.succ_ne_self _, Nat.ne_of_gt (Nat.lt_succ_of_lt alt), Nat.ne_of_lt alt⟩, below, q⟩
end Mz

set_option Elab.async false
set_option linter.all false
set_option maxRecDepth 100000
set_option maxHeartbeats 4000000
/-! dicts from (int, (ints)) to ints -/
namespace Mz
open PySem PySem.Spec PyProof.Rows L2
abbrev PK := Int × List Int
def nk (p : PK) : NestedKey := .tup [.num p.1, .tup (p.2.map .num)]
theorem nums_inj : ∀ {a b : List Int}, a.map NestedKey.num = b.map NestedKey.num → a = b
  | [], [], _ => rfl
  | [], _ :: _, h => by simp at h
  | _ :: _, [], h => by simp at h
  | x :: a, y :: b, h => by
    rw [List.map_cons, List.map_cons] at h
    injection h with h1 h2
    injection h1 with h1
    rw [h1, nums_inj h2]
theorem nk_inj {p q : PK} (h : nk p = nk q) : p = q := by
  unfold nk at h
  injection h with h
  injection h with h1 h2
  injection h1 with h1
  injection h2 with h2 _
  injection h2 with h2
  exact Prod.ext h1 (nums_inj h2)
abbrev Ent := PK × Addr × Value
def rawE (x : Ent) : NestedKey × Addr × Value := (nk x.1, x.2)
/-- such a dict, as its own object tells it -/
def NestO (P : Program) (w : World) (d : Addr) (xs : List Ent) : HO := .ext fun h => (d == sysModules) = false ∧ xs.length ≤ sizeLine ∧
  ∃ o es ep, h.get? d = some o ∧ o.ExactDict ∧ o.data = .dict es ep ∧ es.toList = (xs.map rawE).map (entryOfKey (nestedKind P w)) ∧ (xs.map (·.1)).Nodup
/-- the key p stands at a -/
def KeyAt (H : Hp) (a : Addr) (p : PK) : Prop := ∃ b, H a = some (.tup [.int p.1, .ref b]) ∧ H b = some (.tup (p.2.map V.int))
theorem KeyAt.same {H H' : Hp} {a : Addr} {p : PK} (k : KeyAt H a p) (s : Same H H') : KeyAt H' a p := let ⟨b, h1, h2⟩ := k; ⟨b, s _ _ h1, s _ _ h2⟩
theorem nums_all {h : Heap} : ∀ {ns : List Int} {its : List Value}, Vals (ns.map V.int) its → NestedAll h (ns.map .num) its
  | [], _, .nil => .nil
  | n :: ns, _, .cons r t => by
    obtain ⟨k, rfl⟩ := (show ∃ k, _ = Value.int n k from r)
    exact .cons (.int n k) (nums_all t)
theorem nums_depth : ∀ ns : List Int, NestedKey.depthAll (ns.map .num) ≤ 1
  | [] => by simp [NestedKey.depthAll]
  | n :: ns => by
    have := nums_depth ns
    simp [NestedKey.depthAll, NestedKey.depth]
    omega
section
variable {P : Program} {w : World} {H : Hp} {h : Heap} {d : Addr}
theorem key_nest (ok : HOk P w H h) {a : Addr} {p : PK} (k : KeyAt H a p) : (nestedKind P w).is h (nk p) a := by
  obtain ⟨b, h1, h2⟩ := k
  obtain ⟨_, its, rv, o, e1, e2, n, e3⟩ := (show ObjOk P w H h a (.tup _) from ok a _ h1)
  obtain ⟨_, its2, rv2, o2, f1, f2, n2, f3⟩ := (show ObjOk P w H h b (.tup _) from ok b _ h2)
  refine ⟨.tup e1 e2 e3 ?_, ?_⟩
  · cases rv with
    | cons r t =>
      cases t with
      | cons r2 t =>
        cases t
        obtain ⟨k, rfl⟩ := (show ∃ k, _ = Value.int p.1 k from r)
        cases (show _ = Value.ref b from r2)
        refine .cons (.int _ _) (.cons (.tup f1 f2 f3 ?_) .nil)
        simpa using nums_all rv2
  · have := nums_depth p.2
    simp [nk, NestedKey.depth, NestedKey.depthAll]
    omega
theorem nest_nodup {xs : List Ent} (h : (xs.map (·.1)).Nodup) : ((xs.map rawE).map (·.1)).Nodup := by
  have e : (xs.map rawE).map (·.1) = (xs.map (·.1)).map nk := by
    rw [List.map_map, List.map_map]
    rfl
  rw [e]
  exact List.Pairwise.map _ (fun a b n z => n (nk_inj z)) h
theorem nest_of (ok : HOk P w H h) {xs : List Ent} (e : H d = some (NestO P w d xs)) (ks : ∀ x ∈ xs, KeyAt H x.2.1 x.1) : (d == sysModules) = false ∧ xs.length ≤ sizeLine ∧ h.DictOfH (nestedKind P w) d (xs.map rawE) := by
  obtain ⟨⟨a, b, o, es, ep, h1, h2, h3, h4, h5⟩, _⟩ := (show ObjOk P w H h d (NestO P w d xs) from ok d _ e)
  refine ⟨a, b, o, es, ep, h1, h2, h3, h4, fun x hx => ?_, nest_nodup h5⟩
  obtain ⟨y, hy, rfl⟩ := List.mem_map.mp hx
  exact key_nest ok (ks y hy)
theorem nest_ok {xs : List Ent} (hd : (d == sysModules) = false) (z : xs.length ≤ sizeLine) (n : (xs.map (·.1)).Nodup) (D : h.DictOfH (nestedKind P w) d (xs.map rawE)) : ObjOk P w H h d (NestO P w d xs) := by
  obtain ⟨o, es, ep, h1, h2, h3, h4, _, _⟩ := D
  refine ⟨⟨hd, z, o, es, ep, h1, h2, h3, h4, n⟩, ⟨o, h1⟩, fun g1 g2 ⟨a, b, o1, es1, ep1, k1, k2, k3, k4, k5⟩ kp => ⟨a, b, o1, es1, ep1, kp _ k1, k2, k3, k4, k5⟩⟩
end
/-- the dict's content, key by key -/
structure NestD (P : Program) (w : World) (H : Hp) (d : Addr) (kvs : List (PK × Int)) : Prop where
  ex : ∃ xs : List Ent, H d = some (NestO P w d xs) ∧ (∀ x ∈ xs, KeyAt H x.2.1 x.1) ∧ Paired (fun (kv : PK × Int) x => kv.1 = x.1 ∧ ∃ t, x.2.2 = Value.int kv.2 t) kvs xs
def findK (kvs : List (PK × Int)) (p : PK) : Option Int := (kvs.find? fun kv => decide (kv.1 = p)).map (·.2)
theorem findK_at {p : PK} : ∀ {kvs : List (PK × Int)} {xs : List Ent}, Paired (fun (kv : PK × Int) x => kv.1 = x.1 ∧ ∃ t, x.2.2 = Value.int kv.2 t) kvs xs →
    (∀ v, findK kvs p = some v → ∃ a t, atKey (xs.map rawE) (nk p) = some (a, Value.int v t)) ∧ (findK kvs p = none → atKey (xs.map rawE) (nk p) = none)
  | [], [], _ => ⟨fun v h => (by cases h), fun _ => rfl⟩
  | kv :: kvs, x :: xs, .cons r t => by
    obtain ⟨ih1, ih2⟩ := findK_at (p := p) t
    obtain ⟨r1, k, r2⟩ := r
    by_cases c : kv.1 = p
    · have e1 : findK (kv :: kvs) p = some kv.2 := by simp [findK, List.find?_cons, c]
      rw [e1]
      refine ⟨fun v hv => ?_, fun hv => (by cases hv)⟩
      cases hv
      refine ⟨x.2.1, k, ?_⟩
      have e2 : (rawE x).1 = nk p := by
        show nk x.1 = nk p
        rw [← r1, c]
      unfold atKey
      rw [List.map_cons, List.find?_cons, decide_eq_true e2]
      show some (x.2.1, x.2.2) = _
      rw [r2]
    · have e1 : findK (kv :: kvs) p = findK kvs p := by simp [findK, List.find?_cons, c]
      have e2 : ¬ (rawE x).1 = nk p := fun z => c (r1.trans (nk_inj z))
      have e3 : atKey ((x :: xs).map rawE) (nk p) = atKey (xs.map rawE) (nk p) := by
        unfold atKey
        rw [List.map_cons, List.find?_cons, decide_eq_false e2]
      rw [e1, e3]
      exact ⟨ih1, ih2⟩
section
variable {P : Program} {w : World} {H H' : Hp} {d : Addr} {kvs : List (PK × Int)}
theorem NestD.same (n : NestD P w H d kvs) (s : Same H H') : NestD P w H' d kvs := by
  obtain ⟨xs, e, ks, r⟩ := n.ex
  exact ⟨xs, s _ _ e, fun x hx => (ks x hx).same s, r⟩
theorem NestD.new (h : H d = none) : NestD P w (upd H d (NestO P w d [])) d [] := ⟨[], upd_same, fun x hx => absurd hx (by simp), .nil⟩
theorem NestD.len (n : NestD P w H d kvs) : ∃ xs : List Ent, xs.length = kvs.length ∧ H d = some (NestO P w d xs) := by
  obtain ⟨xs, e, _, r⟩ := n.ex
  exact ⟨xs, (Paired.length r).symm, e⟩
end
/-- d[key] -/
theorem nest_get {X : Cx} {pins : List (Addr × Obj)} {σ : L2.St} {H : Hp} {s : Shared} {A : Around} {E : Value → Shared → Prop} {d a : Addr} {kvs : List (PK × Int)} {p : PK} {v : Int} {Q : Value → Shared → Prop} (hu : A.units + 10 < cLine)
    (I : Inv X pins σ H s) (n : NestD X.prog X.w H d kvs) (ka : KeyAt H a p) (f : findK kvs p = some v) (q : ∀ u s', Inv X pins σ H s' → RelV (.int v) u → Q u s') : wpAny (model X.prog X.w) A (getItem (.ref d) (.ref a)) Q E s := by
  obtain ⟨xs, e, ks, r⟩ := n.ex
  obtain ⟨_, _, D⟩ := nest_of I.hok e ks
  obtain ⟨b, t, f2⟩ := (findK_at r).1 v f
  exact wpAny_getItem_heap (knd := nestedKind X.prog X.w) (show A.in1.units + 8 < cLine by show A.units + 1 + 8 < cLine; omega) (key_nest I.hok ka) D f2 (q _ _ (I.tok _) ⟨t, rfl⟩)
/-- d.setdefault(key, z) -/
theorem nest_set {X : Cx} {pins : List (Addr × Obj)} {σ : L2.St} {H : Hp} {s : Shared} {A : Around} {E : Value → Shared → Prop} {d a : Addr} {kvs : List (PK × Int)} {p : PK} {z : Int} {r : Value} {Q : Value → Shared → Prop} (hu : A.units + 10 < cLine) (hl : kvs.length < sizeLine)
    (I : Inv X pins σ H s) (n : NestD X.prog X.w H d kvs) (ka : KeyAt H a p) (rz : RelV (.int z) r) (old : ∀ v, findK kvs p = some v → ∀ u s', Inv X pins σ H s' → RelV (.int v) u → Q u s')
    (new : findK kvs p = none → ∀ xs' s', NestD X.prog X.w (upd H d (NestO X.prog X.w d xs')) d (kvs ++ [(p, z)]) → Inv X pins σ (upd H d (NestO X.prog X.w d xs')) s' → Q r s') : wpAny (model X.prog X.w) A (call (.builtin "dict.setdefault") [.ref d, .ref a, r]) Q E s := by
  obtain ⟨xs, e, ks, rel⟩ := n.ex
  obtain ⟨hd, hz, D⟩ := nest_of I.hok e ks
  have hlx : xs.length = kvs.length := (Paired.length rel).symm
  refine call_setdefault_heap (knd := nestedKind X.prog X.w) (hsz := by rw [List.length_map]; exact hz) (show A.in1.units + 8 < cLine by show A.units + 1 + 8 < cLine; omega) (key_nest I.hok ka) hd D (fun pr hp => ?_) (fun hn h' D' sb => ?_)
  · cases f : findK kvs p with
    | none =>
      rw [(findK_at rel).2 f] at hp
      cases hp
    | some v =>
      obtain ⟨b, t, f2⟩ := (findK_at rel).1 v f
      rw [f2] at hp
      cases hp
      exact old v f _ _ (I.tok _) ⟨t, rfl⟩
  · cases f : findK kvs p with
    | some v =>
      obtain ⟨b, t, f2⟩ := (findK_at rel).1 v f
      rw [f2] at hn
      cases hn
    | none =>
      obtain ⟨t, rfl⟩ := (show ∃ t, r = Value.int z t from rz)
      have e1 : storedH (xs.map rawE) (nk p) a (Value.int z t) = (xs ++ [(p, a, Value.int z t)]).map rawE := by
        rw [storedH_new hn, List.map_append]
        rfl
      rw [e1] at D'
      have nod : ((xs ++ [(p, a, Value.int z t)]).map (·.1)).Nodup := by
        obtain ⟨⟨_, _, _, _, _, _, _, _, _, k5⟩, _⟩ := (show ObjOk X.prog X.w H s.heap d (NestO X.prog X.w d xs) from I.hok d _ e)
        rw [List.map_append]
        refine List.nodup_append.mpr ⟨k5, by simp, fun y hy q hq => ?_⟩
        simp at hq
        rw [hq]
        rintro rfl
        obtain ⟨x, hx, e3⟩ := List.mem_map.mp hy
        obtain ⟨j, hj, e4⟩ := List.getElem_of_mem hx
        unfold atKey at hn
        rw [Option.map_eq_none_iff, List.find?_eq_none] at hn
        have := hn (rawE x) (List.mem_map.mpr ⟨x, hx, rfl⟩)
        simp [rawE, e3] at this
      have he : ∃ o, h'.get? d = some o := let ⟨o, _, _, k, _⟩ := D'; ⟨o, k⟩
      have hz2 : (xs ++ [(p, a, Value.int z t)]).length ≤ sizeLine := by
        rw [List.length_append, List.length_singleton]
        omega
      have nd : NestD X.prog X.w (upd H d (NestO X.prog X.w d (xs ++ [(p, a, Value.int z t)]))) d (kvs ++ [(p, z)]) := by
        have kt : ∀ {b : Addr} {q : PK}, KeyAt H b q → KeyAt (upd H d (NestO X.prog X.w d (xs ++ [(p, a, Value.int z t)]))) b q := fun {b q} ⟨c, k1, k2⟩ => by
          refine ⟨c, ?_, ?_⟩
          · rw [upd_ne fun z => ?_]
            · exact k1
            · rw [z, e] at k1
              cases k1
          · rw [upd_ne fun z => ?_]
            · exact k2
            · rw [z, e] at k2
              cases k2
        refine ⟨_, upd_same, fun x hx => ?_, ?_⟩
        · rcases List.mem_append.mp hx with q | q
          · exact kt (ks x q)
          · rw [List.mem_singleton.mp q]
            exact kt ka
        · have app : ∀ {l1 : List (PK × Int)} {l2 : List Ent}, Paired (fun (kv : PK × Int) (x : Ent) => kv.1 = x.1 ∧ ∃ t, x.2.2 = Value.int kv.2 t) l1 l2 → Paired (fun (kv : PK × Int) (x : Ent) => kv.1 = x.1 ∧ ∃ t, x.2.2 = Value.int kv.2 t) (l1 ++ [(p, z)]) (l2 ++ [(p, a, Value.int z t)]) := by
            intro l1 l2 hp
            induction hp with
            | nil => exact .cons ⟨rfl, t, rfl⟩ .nil
            | cons h _ ih => exact .cons h ih
          exact app rel
      exact new f _ _ nd (d_write (t' := s.toks + (nestedKind X.prog X.w).draws (nk p)) I (by rw [e]; exact True.intro) sb he (nest_ok hd hz2 nod D'))
/-! ### the rules: a dict of ints, or of such keys -/
def tNewKN (P : Program) (w : World) : TE := fun _ H Q => (∀ p, H p = none → Q (.ref p) (upd H p (.dK []))) ∨ ∀ p, H p = none → Q (.ref p) (upd H p (NestO P w p []))
theorem pe_dnewKN {X : Cx} {pos : Pos} : PE X (.Dict [] [] pos) (tNewKN X.prog X.w) := by
  refine ⟨fun pins s σ H Q I h => ?_⟩
  rcases h with h | h
  · exact pe_dnewK.run pins s σ H Q I h
  · have hb : sysModules < s.heap.objs.size := I.big
    have ok : ObjOk X.prog X.w (upd H s.heap.objs.size (NestO X.prog X.w s.heap.objs.size [])) (s.heap.push { cls := .type "dict", data := .dict #[] }) s.heap.objs.size (NestO X.prog X.w s.heap.objs.size []) :=
      nest_ok (beq_eq_false_iff_ne.mpr (Ne.symm (Nat.ne_of_lt hb))) (Nat.zero_le _) List.nodup_nil ⟨_, #[], 0, Heap.get?_push_size _ rfl, ⟨rfl, rfl, rfl⟩, rfl, rfl, fun x hx => absurd hx (by simp), List.nodup_nil⟩
    exact wpAny_Dict_empty ⟨.ref s.heap.objs.size, _, I.laid (a := s.heap.objs.size) (o := NestO X.prog X.w s.heap.objs.size []) (t' := s.toks) (fun _ _ q => Heap.get?_push_of_some _ q) (Nat.le_refl _) ok, rfl, h _ (I.hok.fresh (Nat.le_refl _))⟩
def tGetKN (P : Program) (w : World) (td ty : TE) : TE := fun σ H Q => td σ H fun x H1 => ty σ H1 fun y H2 => (∃ a v, x = .ref a ∧ DGet H2 a y (some v) ∧ Q v H2) ∨
  ∃ (d a : Addr) (kvs : List (PK × Int)) (p : PK) (v : Int), x = .ref d ∧ y = .ref a ∧ NestD P w H2 d kvs ∧ KeyAt H2 a p ∧ findK kvs p = some v ∧ Q (.int v) H2
theorem pe_dgetKN {X : Cx} {o i : Expr} {pos : Pos} {td ty : TE} (hu : X.A.units + 10 < cLine) (ho : PE X o td) (hi : PE X i ty) (hs : NoSl i) : PE X (.Subscript o i pos) (tGetKN X.prog X.w td ty) := by
  refine ⟨fun pins s σ H Q I h => ?_⟩
  refine subD_of PySem.F.slot_dict_getitem.lookup hs (thn (ho.run pins s σ H _ I h) fun u s1 ⟨x, H1, I1, rx, q1⟩ => thn (hi.run pins s1 σ H1 _ I1 q1) fun iv s2 ⟨y, H2, I2, ry, q2⟩ => ?_)
  rcases q2 with ⟨a, v, rfl, g, q⟩ | ⟨d, a, kvs, p, v, rfl, rfl, n, ka, f, q⟩
  · obtain rfl : u = Value.ref a := rx
    exact ⟨dict_typeIs I2 g, d_getItem (by omega) I2 g ry fun w' s3 I3 rw' => ⟨v, H2, I3, rw', q⟩⟩
  · obtain rfl : u = Value.ref d := rx
    obtain rfl : iv = Value.ref a := ry
    obtain ⟨xs, e, ks, _⟩ := n.ex
    exact ⟨(nest_of I2.hok e ks).2.2.typeIs, nest_get hu I2 n ka f fun w' s3 I3 rw' => ⟨_, H2, I3, rw', q⟩⟩
def IsKN (P : Program) (w : World) (H : Hp) (a : Addr) : Prop := (∃ kvs, H a = some (.dK kvs)) ∨ ∃ kvs, NestD P w H a kvs
def tSetKN (P : Program) (w : World) (td ty tx : TE) : TE := fun σ H Q => td σ H fun x H1 => ∃ a, x = .ref a ∧ IsKN P w H1 a ∧ ty σ H1 fun y H2 => tx σ H2 fun z H3 =>
  (∃ (kvs : List (L2.Key × V)) (k : L2.Key), H3 a = some (.dK kvs) ∧ y = kV k ∧ kvs.length < sizeLine ∧ (∀ v, valV kvs k = some v → Q v H3) ∧ (valV kvs k = none → Q z (upd H3 a (.dK (putK kvs k z))))) ∨
  ∃ (b : Addr) (kvs : List (PK × Int)) (p : PK) (n : Int), y = .ref b ∧ z = .int n ∧ NestD P w H3 a kvs ∧ KeyAt H3 b p ∧ kvs.length < sizeLine ∧ (∀ v, findK kvs p = some v → Q (.int v) H3) ∧
    (findK kvs p = none → ∀ xs', NestD P w (upd H3 a (NestO P w a xs')) a (kvs ++ [(p, n)]) → Q (.int n) (upd H3 a (NestO P w a xs')))
theorem pe_dsetKN {X : Cx} {o e f : Expr} {td ty tx : TE} {apos cpos : Pos} (hu : X.A.units + 10 < cLine) (ho : PE X o td) (he : PE X e ty) (hf : PE X f tx) (m : M2 X o "setdefault" apos e f cpos) : PE X (.Call (.Attribute o "setdefault" apos) [e, f] [] cpos) (tSetKN X.prog X.w td ty tx) := by
  refine ⟨fun pins s σ H Q I h => ?_⟩
  refine wpAny_Call_method m.base m.few m.line PySem.F.plainAttrs_dict PySem.F.slot_dict_setdefault PySem.F.type_dict_setdefault (thn (ho.run pins s σ H _ I h) fun u s1 ⟨x, H1, I1, rx, a, ex, d, q1⟩ => ?_)
  subst ex
  obtain rfl : u = Value.ref a := rx
  have both : s1.TypeIs (.ref a) "dict" ∧ ∀ b, Value.ref a = .ref b → ∃ ob, s1.heap.get? b = some ob ∧ ob.dict = none := by
    rcases d with ⟨kvs, e1⟩ | ⟨kvs, n⟩
    · obtain ⟨t1, t2, _⟩ := isD_at I1 (.inl ⟨kvs, .inl e1⟩)
      exact ⟨t1, t2⟩
    · obtain ⟨xs, e1, ks, _⟩ := n.ex
      obtain ⟨_, _, D⟩ := nest_of I1.hok e1 ks
      refine ⟨D.typeIs, fun b q => ?_⟩
      cases q
      obtain ⟨ob, _, _, k1, k2, _⟩ := D
      exact ⟨ob, k1, k2.2.1⟩
  refine ⟨both.1, both.2, ?_⟩
  rw [m.trees]
  refine Calls.callWith_builtin rfl (Calls.evalArgs_plain (Calls.spliced_cons (thn (he.run pins s1 σ H1 _ I1 q1) fun iv s2 ⟨y, H2, I2, ry, q2⟩ =>
    Calls.spliced_cons (thn (hf.run pins s2 σ H2 _ I2 q2) fun fv s3 ⟨z, H3, I3, rz, q3⟩ => Calls.spliced_nil ?_))))
  rcases q3 with ⟨kvs, k, ea, rfl, hl, q3, q4⟩ | ⟨b, kvs, p, n, rfl, rfl, nd, ka, hl, q3, q4⟩
  · exact d_setd I3 ea ry rz hl (fun v hv w' s4 I4 rw' => ⟨v, _, I4, rw', q3 v hv⟩) fun hn w' s4 I4 rw' => ⟨z, _, I4, rw', q4 hn⟩
  · obtain rfl : iv = Value.ref b := ry
    exact nest_set hu hl I3 nd ka rz (fun v hv w' s4 I4 rw' => ⟨_, _, I4, rw', q3 v hv⟩) fun hn xs' s4 n4 I4 => ⟨.int n, _, I4, rz, q4 hn xs' n4⟩
end Mz
namespace Mz
open PySem PySem.Spec PyProof.Rows L2
theorem hu10 {k : Nat} {A : Around} (r : Room k A) : A.units + 10 < cLine := by
  have := r.un
  omega
theorem walk_enumT {K : PySem.W.Frag} {a : Addr} {xs : List V} : Walk (IteT K a) xs.length (fun H => SqT K H a xs) (YPair (fun i => some (.int (i : Nat))) (fun i => xs[i]?)) :=
  ⟨fun i H hi q => ⟨xs, xs[i], q, List.getElem?_eq_getElem hi⟩, fun H q => ⟨xs, q, Nat.le_refl _⟩, fun i H v H' _ q ⟨T, x, h1, h2, h3, h4⟩ => ⟨T, .int (i : Nat), x, h1, h2, h3, rfl, h4 xs q⟩⟩
/-- the first place of each -/
def fi {α : Type} [DecidableEq α] (l : List α) (x : α) : Int := (l.findIdx fun y => decide (y = x) : Nat)
theorem fi_new {α : Type} [DecidableEq α] {l : List α} {i : Nat} {x : α} (h : l[i]? = some x) (n : x ∉ l.take i) : fi l x = i := by
  obtain ⟨lt, e⟩ := List.getElem?_eq_some_iff.mp h
  unfold fi
  have : l.findIdx (fun y => decide (y = x)) = i := by
    rw [List.findIdx_eq lt]
    refine ⟨decide_eq_true e, fun j hj => decide_eq_false fun z => n ?_⟩
    rw [← z]
    exact List.mem_take_iff_getElem.mpr ⟨j, by omega, rfl⟩
  rw [this]
theorem findK_snoc {kvs : List (PK × Int)} {p : PK} {z : Int} (n : findK kvs p = none) (q : PK) : findK (kvs ++ [(p, z)]) q = if q = p then some z else findK kvs q := by
  unfold findK at *
  rw [List.find?_append]
  by_cases c : q = p
  · subst c
    rw [Option.map_eq_none_iff] at n
    rw [n, if_pos rfl]
    simp
  · rw [if_neg c]
    have : List.find? (fun kv : PK × Int => decide (kv.1 = q)) [(p, z)] = none := by
      rw [List.find?_cons, decide_eq_false (show ¬ p = q from fun e => c e.symm)]
      rfl
    rw [this]
    simp
end Mz
namespace Mz
open PySem PySem.Spec PyProof.Rows L2
theorem pe_dgetKN2 {X : Cx} {P : Program} {w : World} {o i : Expr} {pos : Pos} {td ty : TE} (hP : X.prog = P) (hw : X.w = w) (hu : X.A.units + 10 < cLine) (ho : PE X o td) (hi : PE X i ty) (hs : NoSl i) : PE X (.Subscript o i pos) (tGetKN P w td ty) := by
  subst hP hw
  exact pe_dgetKN hu ho hi hs
end Mz
namespace Mz
open PySem PySem.Spec PyProof.Rows L2
def iLT (K : PySem.W.Frag) (tl : TE) : TI := fun σ H R => tl σ H fun x H1 => ∃ a, x = .ref a ∧ ((∃ xs, SqL K H1 a xs) ∧ R (Itl K a) H1 ∨ (∃ xs, SqT K H1 a xs) ∧ R (Itt K a) H1)
/-- a list or a tuple -/
theorem pi_lt {X : Cx} {tg l : Expr} {tl : TE} (hl : PE X l tl) : PI X tg l (iLT X.K tl) := by
  refine ⟨fun pins s σ H R I h => thn (hl.run pins s σ H _ I h) fun v s1 ⟨x, H1, I1, r1, a, ex, q⟩ => ?_⟩
  subst ex
  obtain rfl : v = Value.ref a := r1
  have below : ∀ b ∈ [s1.heap.objs.size], FpOk X pins H1 b := fun b hb => by
    rw [List.mem_singleton.mp hb]
    exact I1.fpOk (Nat.le_refl _) (I1.hok.fresh (Nat.le_refl _))
  rcases q with ⟨⟨xs, hq⟩, q⟩ | ⟨⟨xs, hq⟩, q⟩
  · obtain ⟨its, rv, p, _⟩ := I1.list hq
    exact wpAny_pyIter_list p.isList ⟨s1.heap.objs.size, [s1.heap.objs.size], _, _, H1, rfl, I1.kept (t' := s1.toks) (fun b o e => Heap.get?_push_of_some _ e), turn_list a _, ⟨_, Heap.get?_push_size _ rfl, rfl, rfl⟩, below, q⟩
  · obtain ⟨its, rv, p, _⟩ := I1.tuple hq
    have tp : s1.heap.IsTuple a its.toArray := p
    exact wpAny_pyIter_tuple tp ⟨s1.heap.objs.size, [s1.heap.objs.size], _, _, H1, rfl, I1.kept (t' := s1.toks) (fun b o e => Heap.get?_push_of_some _ e), turn_tuple a _, ⟨_, Heap.get?_push_size _ rfl, rfl, rfl⟩, below, q⟩
end Mz
namespace Mz
open PySem PySem.Spec PyProof.Rows L2
theorem seqT {K : PySem.W.Frag} {H H' : Hp} {a : Addr} {xs : List V} (s : Same H H') (h : SqT K H a xs) : SqT K H' a xs := by
  rcases h with (h | ⟨o, h⟩) | h
  · exact .inl (.inl (s _ _ h))
  · exact .inl (.inr ⟨o, s _ _ h⟩)
  · exact .inr h
end Mz
namespace DT
open PySem PySem.Spec PyProof.Rows L2
theorem pget2 {α β : Type} {F : α → β → Prop} : ∀ {l₁ : List α} {l₂ : List β} {j : Nat} {x : α}, Paired F l₁ l₂ → l₁[j]? = some x → ∃ y, l₂[j]? = some y ∧ F x y
  | _, _, 0, _, .cons h _, e => by
    cases e
    exact ⟨_, rfl, h⟩
  | _, _, j + 1, _, .cons _ t, e => pget2 (j := j) t e
  | _, _, 0, _, .nil, e => by cases e
  | _, _, j + 1, _, .nil, e => by cases e
end DT

set_option Elab.async false
set_option linter.all false
set_option maxRecDepth 100000
set_option maxHeartbeats 4000000
namespace K25
open PySem PySem.Spec PyProof.Rows L2 Mz
def firsts {α : Type} [DecidableEq α] (l : List α) : List Int := l.map (fi l)
/-- the marks: ints, or pairs of an int and ints -/
inductive Marks (K : PySem.W.Frag) (H : Hp) (a : Addr) : List V → List Int → Prop where
  | mi (ns : List Int) : (SqL K H a (ns.map V.int) ∨ SqT K H a (ns.map V.int)) → Marks K H a (ns.map V.int) (firsts ns)
  | mp (as : List Addr) (ps : List PK) : SqL K H a (as.map V.ref) → Paired (fun b p => KeyAt H b p) as ps → Marks K H a (as.map V.ref) (firsts ps)
def spPlaces (K : PySem.W.Frag) : Sp := fun vs H Q _ => ∃ (a : Addr) (xs : List V) (fs : List Int), vs = [.ref a] ∧ Marks K H a xs fs ∧ xs.length ≤ 1000 ∧ ∀ (H' : Hp) (p : Addr), Same H H' → H p = none → H' p = some (.lst (fs.map V.int)) → Q (.ref p) H'
section
variable {P : Program} {w : World} {K : PySem.W.Frag} {mg : Str → Option Value} {base : Heap} {A : Ads}
theorem ok_places (T : Txt K mg A) : FnOk P w K mg base CX0 1 A.a_first_places A.d_first_places ["marks"] (spPlaces K) := by
  refine T.F_first_places.ok sc_first_places (fun vs H Q E h => ?_) (fun cdv Ar outer s H vs Q E hr h => ?_)
  · obtain ⟨_, _, _, rfl, _⟩ := h
    rfl
  · obtain ⟨a, xs, fs, rfl, hm, few, fin⟩ := h
    refine ⟨_, (pss_cons (ps_set (i := 1) sc_first_places.nd rfl (Or.inr rfl) pe_dnewKN)
      (pss_cons (ps_for PassesOwn.never rfl (pi_enumT (by rfl) T.n_enumerate (pa_cons (pv 0) pa_nil)) (pg_tup rfl (pgs_cons (pg_name (i := 2) sc_first_places.nd rfl (Or.inl rfl)) (pgs_cons (pg_name (i := 3) sc_first_places.nd rfl (Or.inl rfl)) pgs_nil)))
        (pss_one (ps_expr (pe_dsetKN (hu10 hr) (pv 1) (pv 3) (pv 2) ⟨rfl, rfl, rfl, rfl⟩))))
      (pss_one (ps_ret (pe_lc (own := [("mark", 3)]) (g := (gName 3)) (tt := tYes) rfl sc_first_places.nd (pi_lt (pv 0)) (blkOk_by (N := ["marks", "first", "place", "mark"]) (sc := defScope s_first_places) (by decide +kernel)) (fun _ _ _ _ _ => (pg_name (i := 3) sc_first_places.nd rfl (Or.inl rfl))) (fun _ _ _ _ _ => pts_nil) (fun _ _ _ _ _ => (pe_dgetKN2 (P := P) (w := w) rfl rfl (hu10 hr) (pv 1) (pv 3) (fun _ _ => rfl)))))))), ?_⟩
    cases hm with
    | mi ns hS =>
     rcases hS with hS | hS
     ·
      have hSx : ∀ {H' : Hp}, Same H H' → SqL K H' a (ns.map V.int) := fun s => s.seq hS
      refine .inl fun d hd => ?_
      have s1 := same_upd (o := .dK []) (Same.refl H) hd
      refine ⟨_, rfl, a, rfl, .inl ⟨⟨_, hSx s1⟩, ?_⟩⟩
      refine for_it (walk_enum (xs := ns.map V.int)) (fun i σ H' => ∃ (kvs : List (L2.Key × V)) (v2 v3 : Option V), σ = [some (.ref a), some (.ref d), v2, v3] ∧ Same H H' ∧ H' d = some (.dK kvs) ∧ kvs.length ≤ i ∧ ∀ n : Int, valV kvs (.inl n) = if n ∈ ns.take i then some (.int (fi ns n)) else none)
        ⟨[], none, none, rfl, s1, upd_same, Nat.le_refl _, fun n => rfl⟩ (fun i σ H' _ ⟨_, _, _, _, s, _⟩ => hSx s) ?_ ?_
      · rintro i y σ H1 H1' hi ⟨kvs, v2, v3, rfl, s2, e1, e2, e3⟩ ⟨T, x, z, rfl, hT, rfl, h1, h2⟩
        obtain ⟨n, hn, rfl⟩ := ofV h2
        cases h1
        have s3 := same_upd (o := .tup [.int (i : Int), .int n]) s2 hT
        have Td : T ≠ d := fun z => by
          rw [z, e1] at hT
          cases hT
        have e1' : (upd H1 T (.tup [.int (i : Int), .int n])) d = some (.dK kvs) := by
          rw [upd_ne Td.symm]
          exact e1
        rw [List.length_map] at few hi
        refine ⟨T, _, rfl, SqT.of upd_same, rfl, _, _, rfl, _, _, rfl, rfl, ?_⟩
        refine ⟨_, rfl, d, rfl, .inl ⟨kvs, e1'⟩, _, rfl, _, rfl, .inl ⟨kvs, .inl n, e1', rfl, Nat.lt_of_le_of_lt (by omega : kvs.length ≤ 1000) (by decide), fun v hv => ?_, fun hv => ?_⟩⟩
        · refine ⟨kvs, _, _, rfl, s3, e1', by omega, fun m => ?_⟩
          rw [e3, take_more hn]
          by_cases c : m ∈ ns.take i
          · rw [if_pos c, if_pos (List.mem_append.mpr (.inl c))]
          · rw [if_neg c, if_neg fun z => ?_]
            rcases List.mem_append.mp z with z | z
            · exact c z
            · rw [List.mem_singleton.mp z] at c
              rw [e3, if_neg c] at hv
              cases hv
        · have nin : n ∉ ns.take i := fun z => by
            rw [e3, if_pos z] at hv
            cases hv
          refine ⟨_, _, _, rfl, same_set s3 hd, upd_same, by have := length_putK kvs (.inl n) (V.int (i : Int)); omega, fun m => ?_⟩
          rw [valV_put, take_more hn]
          by_cases c : m = n
          · subst c
            rw [if_pos rfl, if_pos (by simp), fi_new hn nin]
          · rw [if_neg fun z => c (by injection z), e3]
            by_cases c2 : m ∈ ns.take i
            · rw [if_pos c2, if_pos (List.mem_append.mpr (.inl c2))]
            · rw [if_neg c2, if_neg fun z => ?_]
              rcases List.mem_append.mp z with z | z
              · exact c2 z
              · exact c (List.mem_singleton.mp z)
      · rintro σ H1 ⟨kvs, v2, v3, rfl, s2, e1, e2, e3⟩
        rw [List.length_map] at e3 few
        rw [List.take_length] at e3
        refine ⟨_, rfl, a, rfl, .inl ⟨⟨_, hSx s2⟩, fun D hD => ?_⟩⟩
        have Dd : D ≠ d := fun z => by
          rw [z, e1] at hD
          cases hD
        refine lc_list (K := K) (a := a) (xs := ns.map V.int) (fun i H' => H' = upd H1 D (.lst (((ns.take i).map (fi ns)).map V.int))) rfl (fun i H' _ e => by rw [e]; exact hSx (s2.trans (same_upd (Same.refl _) hD))) ?_ ?_
        · rintro i y H2 hi rfl
          obtain ⟨n, hn, rfl⟩ := ofV hi
          refine ⟨rfl, ?_⟩
          refine ⟨_, rfl, _, rfl, .inl ⟨d, .int (fi ns n), rfl, ?_, ?_⟩⟩
          · have q := DGet.k (H := upd H1 D (.lst (((ns.take i).map (fi ns)).map V.int))) (a := d) (kvs := kvs) (k := .inl n) (by rw [upd_ne Dd.symm]; exact e1)
            rw [e3, if_pos (List.mem_of_getElem? hn)] at q
            exact q
          · refine ⟨_, upd_same, ?_, ?_⟩
            · rw [List.length_map, List.length_map, List.length_take]
              exact Nat.lt_of_le_of_lt (by omega : min i ns.length ≤ 1000) (by decide)
            · rw [upd_upd, take_more hn, List.map_append, List.map_append]
              rfl
        · rintro H2 rfl
          rw [List.length_map, List.take_length]
          exact fin _ D (s2.trans (same_upd (Same.refl _) hD)) (s2.free hD) upd_same
     ·
      have hSx : ∀ {H' : Hp}, Same H H' → SqT K H' a (ns.map V.int) := fun s => seqT s hS
      refine .inl fun d hd => ?_
      have s1 := same_upd (o := .dK []) (Same.refl H) hd
      refine ⟨_, rfl, a, rfl, .inr ⟨⟨_, hSx s1⟩, ?_⟩⟩
      refine for_it (walk_enumT (xs := ns.map V.int)) (fun i σ H' => ∃ (kvs : List (L2.Key × V)) (v2 v3 : Option V), σ = [some (.ref a), some (.ref d), v2, v3] ∧ Same H H' ∧ H' d = some (.dK kvs) ∧ kvs.length ≤ i ∧ ∀ n : Int, valV kvs (.inl n) = if n ∈ ns.take i then some (.int (fi ns n)) else none)
        ⟨[], none, none, rfl, s1, upd_same, Nat.le_refl _, fun n => rfl⟩ (fun i σ H' _ ⟨_, _, _, _, s, _⟩ => hSx s) ?_ ?_
      · rintro i y σ H1 H1' hi ⟨kvs, v2, v3, rfl, s2, e1, e2, e3⟩ ⟨T, x, z, rfl, hT, rfl, h1, h2⟩
        obtain ⟨n, hn, rfl⟩ := ofV h2
        cases h1
        have s3 := same_upd (o := .tup [.int (i : Int), .int n]) s2 hT
        have Td : T ≠ d := fun z => by
          rw [z, e1] at hT
          cases hT
        have e1' : (upd H1 T (.tup [.int (i : Int), .int n])) d = some (.dK kvs) := by
          rw [upd_ne Td.symm]
          exact e1
        rw [List.length_map] at few hi
        refine ⟨T, _, rfl, SqT.of upd_same, rfl, _, _, rfl, _, _, rfl, rfl, ?_⟩
        refine ⟨_, rfl, d, rfl, .inl ⟨kvs, e1'⟩, _, rfl, _, rfl, .inl ⟨kvs, .inl n, e1', rfl, Nat.lt_of_le_of_lt (by omega : kvs.length ≤ 1000) (by decide), fun v hv => ?_, fun hv => ?_⟩⟩
        · refine ⟨kvs, _, _, rfl, s3, e1', by omega, fun m => ?_⟩
          rw [e3, take_more hn]
          by_cases c : m ∈ ns.take i
          · rw [if_pos c, if_pos (List.mem_append.mpr (.inl c))]
          · rw [if_neg c, if_neg fun z => ?_]
            rcases List.mem_append.mp z with z | z
            · exact c z
            · rw [List.mem_singleton.mp z] at c
              rw [e3, if_neg c] at hv
              cases hv
        · have nin : n ∉ ns.take i := fun z => by
            rw [e3, if_pos z] at hv
            cases hv
          refine ⟨_, _, _, rfl, same_set s3 hd, upd_same, by have := length_putK kvs (.inl n) (V.int (i : Int)); omega, fun m => ?_⟩
          rw [valV_put, take_more hn]
          by_cases c : m = n
          · subst c
            rw [if_pos rfl, if_pos (by simp), fi_new hn nin]
          · rw [if_neg fun z => c (by injection z), e3]
            by_cases c2 : m ∈ ns.take i
            · rw [if_pos c2, if_pos (List.mem_append.mpr (.inl c2))]
            · rw [if_neg c2, if_neg fun z => ?_]
              rcases List.mem_append.mp z with z | z
              · exact c2 z
              · exact c (List.mem_singleton.mp z)
      · rintro σ H1 ⟨kvs, v2, v3, rfl, s2, e1, e2, e3⟩
        rw [List.length_map] at e3 few
        rw [List.take_length] at e3
        refine ⟨_, rfl, a, rfl, .inr ⟨⟨_, hSx s2⟩, fun D hD => ?_⟩⟩
        have Dd : D ≠ d := fun z => by
          rw [z, e1] at hD
          cases hD
        refine lc_tup (K := K) (a := a) (xs := ns.map V.int) (fun i H' => H' = upd H1 D (.lst (((ns.take i).map (fi ns)).map V.int))) rfl (fun i H' _ e => by rw [e]; exact hSx (s2.trans (same_upd (Same.refl _) hD))) ?_ ?_
        · rintro i y H2 hi rfl
          obtain ⟨n, hn, rfl⟩ := ofV hi
          refine ⟨rfl, ?_⟩
          refine ⟨_, rfl, _, rfl, .inl ⟨d, .int (fi ns n), rfl, ?_, ?_⟩⟩
          · have q := DGet.k (H := upd H1 D (.lst (((ns.take i).map (fi ns)).map V.int))) (a := d) (kvs := kvs) (k := .inl n) (by rw [upd_ne Dd.symm]; exact e1)
            rw [e3, if_pos (List.mem_of_getElem? hn)] at q
            exact q
          · refine ⟨_, upd_same, ?_, ?_⟩
            · rw [List.length_map, List.length_map, List.length_take]
              exact Nat.lt_of_le_of_lt (by omega : min i ns.length ≤ 1000) (by decide)
            · rw [upd_upd, take_more hn, List.map_append, List.map_append]
              rfl
        · rintro H2 rfl
          rw [List.length_map, List.take_length]
          exact fin _ D (s2.trans (same_upd (Same.refl _) hD)) (s2.free hD) upd_same
    | mp as ps hS hk =>
      have lenP : as.length = ps.length := Paired.length hk
      rw [List.length_map] at few
      refine .inr fun d hd => ?_
      have s1 := same_upd (o := NestO P w d []) (Same.refl H) hd
      refine ⟨_, rfl, a, rfl, .inl ⟨⟨_, s1.seq hS⟩, ?_⟩⟩
      refine for_it (walk_enum (xs := as.map V.ref)) (fun i σ H' => ∃ (kvs : List (PK × Int)) (v2 v3 : Option V), σ = [some (.ref a), some (.ref d), v2, v3] ∧ Same H H' ∧ NestD P w H' d kvs ∧ kvs.length ≤ i ∧ ∀ p : PK, findK kvs p = if p ∈ ps.take i then some (fi ps p) else none)
        ⟨[], none, none, rfl, s1, NestD.new hd, Nat.le_refl _, fun n => rfl⟩ (fun i σ H' _ ⟨_, _, _, _, s, _⟩ => s.seq hS) ?_ ?_
      · rintro i y σ H1 H1' hi ⟨kvs, v2, v3, rfl, s2, e1, e2, e3⟩ ⟨T, x, z, rfl, hT, rfl, h1, h2⟩
        obtain ⟨b, hb, rfl⟩ := ofV h2
        cases h1
        obtain ⟨p, hp, kb⟩ := DT.pget2 hk hb
        have s3 := same_upd (o := .tup [.int (i : Int), .ref b]) s2 hT
        have e1' := e1.same (same_upd (o := .tup [.int (i : Int), .ref b]) (Same.refl H1) hT)
        rw [List.length_map] at hi
        refine ⟨T, _, rfl, SqT.of upd_same, rfl, _, _, rfl, _, _, rfl, rfl, ?_⟩
        refine ⟨_, rfl, d, rfl, .inr ⟨kvs, e1'⟩, _, rfl, _, rfl, .inr ⟨b, kvs, p, (i : Int), rfl, rfl, e1', kb.same s3, Nat.lt_of_le_of_lt (by omega : kvs.length ≤ 1000) (by decide), fun v hv => ?_, fun hv xs' nd => ?_⟩⟩
        · refine ⟨kvs, _, _, rfl, s3, e1', by omega, fun m => ?_⟩
          rw [e3, take_more hp]
          by_cases c : m ∈ ps.take i
          · rw [if_pos c, if_pos (List.mem_append.mpr (.inl c))]
          · rw [if_neg c, if_neg fun z => ?_]
            rcases List.mem_append.mp z with z | z
            · exact c z
            · rw [List.mem_singleton.mp z] at c
              rw [e3, if_neg c] at hv
              cases hv
        · have nin : p ∉ ps.take i := fun z => by
            rw [e3, if_pos z] at hv
            cases hv
          refine ⟨_, _, _, rfl, same_set s3 hd, nd, by rw [List.length_append, List.length_singleton]; omega, fun m => ?_⟩
          rw [findK_snoc hv, take_more hp]
          by_cases c : m = p
          · subst c
            rw [if_pos rfl, if_pos (by simp), fi_new hp nin]
          · rw [if_neg c, e3]
            by_cases c2 : m ∈ ps.take i
            · rw [if_pos c2, if_pos (List.mem_append.mpr (.inl c2))]
            · rw [if_neg c2, if_neg fun z => ?_]
              rcases List.mem_append.mp z with z | z
              · exact c2 z
              · exact c (List.mem_singleton.mp z)
      · rintro σ H1 ⟨kvs, v2, v3, rfl, s2, e1, e2, e3⟩
        rw [List.length_map, lenP, List.take_length] at e3
        refine ⟨_, rfl, a, rfl, .inl ⟨⟨_, s2.seq hS⟩, fun D hD => ?_⟩⟩
        have sD := fun o => same_upd (o := o) (Same.refl H1) hD
        refine lc_list (K := K) (a := a) (xs := as.map V.ref) (fun i H' => H' = upd H1 D (.lst (((ps.take i).map (fi ps)).map V.int))) rfl (fun i H' _ e => by rw [e]; exact (s2.trans (sD _)).seq hS) ?_ ?_
        · rintro i y H2 hi rfl
          obtain ⟨b, hb, rfl⟩ := ofV hi
          obtain ⟨p, hp, kb⟩ := DT.pget2 hk hb
          refine ⟨rfl, ?_⟩
          refine ⟨_, rfl, _, rfl, .inr ⟨d, b, kvs, p, fi ps p, rfl, rfl, e1.same (sD _), kb.same (s2.trans (sD _)), by rw [e3, if_pos (List.mem_of_getElem? hp)], ?_⟩⟩
          refine ⟨_, upd_same, ?_, ?_⟩
          · rw [List.length_map, List.length_map, List.length_take]
            exact Nat.lt_of_le_of_lt (by omega : min i ps.length ≤ 1000) (by decide)
          · rw [upd_upd, take_more hp, List.map_append, List.map_append]
            rfl
        · rintro H2 rfl
          rw [List.length_map, lenP, List.take_length]
          exact fin _ D (s2.trans (sD _)) (s2.free hD) upd_same
end
end K25

set_option Elab.async false
set_option linter.all false
set_option maxRecDepth 100000
set_option maxHeartbeats 4000000
/-! equivalences that become finer: how often; pairs that are parted within t letters -/
namespace Mz
open PySem PySem.Spec PyProof.Rows L2
theorem filter_le {p q : Nat → Bool} : ∀ l : List Nat, (∀ x ∈ l, p x = true → q x = true) → (l.filter p).length ≤ (l.filter q).length
  | [], _ => Nat.le_refl _
  | a :: l, h => by
    have ih := filter_le l fun x hx => h x (List.mem_cons_of_mem _ hx)
    have ha := h a List.mem_cons_self
    rw [List.filter_cons, List.filter_cons]
    cases e1 : p a with
    | true =>
      rw [if_pos rfl, ha e1, if_pos rfl, List.length_cons, List.length_cons]
      omega
    | false =>
      rw [if_neg (by simp)]
      split
      · rw [List.length_cons]
        omega
      · exact ih
theorem filter_lt {p q : Nat → Bool} : ∀ l : List Nat, (∀ x ∈ l, p x = true → q x = true) → (∃ x ∈ l, q x = true ∧ p x = false) → (l.filter p).length < (l.filter q).length
  | [], _, h => by
    obtain ⟨x, hx, _⟩ := h
    exact absurd hx (by simp)
  | a :: l, h, ⟨x, hx, q1, q2⟩ => by
    have le := filter_le l fun x hx => h x (List.mem_cons_of_mem _ hx)
    have ha := h a List.mem_cons_self
    rw [List.filter_cons, List.filter_cons]
    rcases List.mem_cons.mp hx with e | e
    · rw [e] at q1 q2
      rw [q2, if_neg (by simp), q1, if_pos rfl, List.length_cons]
      omega
    · have ih := filter_lt l (fun x hx => h x (List.mem_cons_of_mem _ hx)) ⟨x, e, q1, q2⟩
      cases e1 : p a with
      | true =>
        rw [if_pos rfl, ha e1, if_pos rfl, List.length_cons, List.length_cons]
        omega
      | false =>
        rw [if_neg (by simp)]
        split
        · rw [List.length_cons]
          omega
        · exact ih
/-- an equivalence on the numbers below n -/
structure Eqv (n : Nat) (R : Nat → Nat → Prop) : Prop where
  refl : ∀ x, R x x
  symm : ∀ x y, R x y → R y x
  trans : ∀ x y z, R x y → R y z → R x z
def Least (R : Nat → Nat → Prop) (x : Nat) : Prop := ∀ y, y < x → ¬ R x y
open Classical in
noncomputable def cnt (n : Nat) (R : Nat → Nat → Prop) : Nat := ((List.range n).filter fun x => decide (Least R x)).length
theorem cnt_le (n : Nat) (R : Nat → Nat → Prop) : cnt n R ≤ n := by
  have := List.length_filter_le (fun x => @decide (Least R x) (Classical.propDecidable _)) (List.range n)
  rw [List.length_range] at this
  exact this
theorem least_of {R : Nat → Nat → Prop} {n : Nat} (E : Eqv n R) : ∀ x : Nat, ∃ r, r ≤ x ∧ R x r ∧ Least R r := by
  intro x
  induction x using Nat.strongRecOn with
  | ind x ih =>
    by_cases h : Least R x
    · exact ⟨x, Nat.le_refl _, E.refl x, h⟩
    · have : ∃ y, y < x ∧ R x y := Classical.byContradiction fun z => h fun y hy r => z ⟨y, hy, r⟩
      obtain ⟨y, hy, r⟩ := this
      obtain ⟨r', l, e, m⟩ := ih y hy
      exact ⟨r', by omega, E.trans _ _ _ r e, m⟩
open Classical in
/-- strictly finer: more classes -/
theorem cnt_lt {n : Nat} {R S : Nat → Nat → Prop} (ER : Eqv n R) (ES : Eqv n S) (fine : ∀ x y, S x y → R x y) (h : ∃ x y, x < n ∧ y < n ∧ R x y ∧ ¬ S x y) : cnt n R < cnt n S := by
  unfold cnt
  refine filter_lt _ (fun x _ e => ?_) ?_
  · exact decide_eq_true fun y hy s => of_decide_eq_true e y hy (fine _ _ s)
  · obtain ⟨x, y, hx, hy, r, s⟩ := h
    obtain ⟨a, la, ra, ma⟩ := least_of ES x
    obtain ⟨b, lb, rb, mb⟩ := least_of ES y
    have ne : a ≠ b := fun z => by
      subst z
      exact s (ES.trans _ _ _ ra (ES.symm _ _ rb))
    have rab : R a b := ER.trans _ _ _ (ER.symm _ _ (fine _ _ ra)) (ER.trans _ _ _ r (fine _ _ rb))
    by_cases c : a < b
    · exact ⟨b, List.mem_range.mpr (by omega), decide_eq_true mb, decide_eq_false fun z => z a c (ER.symm _ _ rab)⟩
    · exact ⟨a, List.mem_range.mpr (by omega), decide_eq_true ma, decide_eq_false fun z => z b (by omega) rab⟩
open Classical in
theorem cnt_pos {n : Nat} (R : Nat → Nat → Prop) (h : 0 < n) : 0 < cnt n R := by
  unfold cnt
  refine List.length_pos_of_mem (a := 0) (List.mem_filter.mpr ⟨List.mem_range.mpr h, ?_⟩)
  exact decide_eq_true fun y hy => absurd hy (Nat.not_lt_zero _)
/-- d times finer: more than d numbers -/
theorem fine_few {n d : Nat} {R : Nat → Nat → Nat → Prop} (hn : 0 < n) (E : ∀ t, Eqv n (R t)) (fine : ∀ t x y, R (t + 1) x y → R t x y) (h : ∀ e, e < d → ∃ x y, x < n ∧ y < n ∧ R e x y ∧ ¬ R (e + 1) x y) : d + 1 ≤ n := by
  have key : ∀ e, e ≤ d → e + 1 ≤ cnt n (R e) := by
    intro e
    induction e with
    | zero => intro _; exact cnt_pos _ hn
    | succ e ih =>
      intro he
      have := ih (by omega)
      have := cnt_lt (E e) (E (e + 1)) (fine e) (h e (by omega))
      omega
  have := key d (Nat.le_refl _)
  have := cnt_le n (R d)
  omega
/-! ### parted within t letters -/
section
variable (M N : Mach)
def Dn (t : Nat) (p : Pr) : Prop := ∃ v, Lt M.ls v ∧ v.length ≤ t ∧ Bad M N (runP M N p v)
/-- d letters are needed -/
def IsD (d : Nat) (p : Pr) : Prop := Dn M N d p ∧ ∀ e, e < d → ¬ Dn M N e p
end
section
variable {M N : Mach}
theorem Dn.mono {t u : Nat} {p : Pr} (h : Dn M N t p) (l : t ≤ u) : Dn M N u p := by
  obtain ⟨v, a, b, c⟩ := h
  exact ⟨v, a, by omega, c⟩
theorem dn_zero {p : Pr} : Dn M N 0 p ↔ Bad M N p := by
  constructor
  · rintro ⟨v, _, l, b⟩
    have : v = [] := List.length_eq_zero_iff.mp (by omega)
    subst this
    exact b
  · intro b
    exact ⟨[], fun z hz => absurd hz (by simp), Nat.le_refl _, b⟩
theorem dn_succ {t : Nat} {p : Pr} : Dn M N (t + 1) p ↔ Bad M N p ∨ ∃ a, 0 ≤ a ∧ a < M.ls ∧ Dn M N t (stepP M N p a) := by
  constructor
  · rintro ⟨v, h, l, b⟩
    cases v with
    | nil => exact .inl b
    | cons a v =>
      refine .inr ⟨a, (h a List.mem_cons_self).1, (h a List.mem_cons_self).2, v, fun z hz => h z (List.mem_cons_of_mem _ hz), ?_, b⟩
      rw [List.length_cons] at l
      omega
  · rintro (b | ⟨a, h0, h1, v, h, l, b⟩)
    · exact (dn_zero.mpr b).mono (Nat.zero_le _)
    · refine ⟨a :: v, fun z hz => ?_, by rw [List.length_cons]; omega, b⟩
      rcases List.mem_cons.mp hz with e | e
      · rw [e]
        exact ⟨h0, h1⟩
      · exact h z e
theorem isd_of {t : Nat} {p : Pr} (h : Dn M N t p) : ∃ d, d ≤ t ∧ IsD M N d p := by
  induction t with
  | zero => exact ⟨0, Nat.le_refl _, h, fun e he => absurd he (Nat.not_lt_zero _)⟩
  | succ t ih =>
    by_cases c : Dn M N t p
    · obtain ⟨d, l, i⟩ := ih c
      exact ⟨d, by omega, i⟩
    · exact ⟨t + 1, Nat.le_refl _, h, fun e he z => c (z.mono (by omega))⟩
theorem IsD.uniq {d e : Nat} {p : Pr} (a : IsD M N d p) (b : IsD M N e p) : d = e := by
  by_cases h : d < e
  · exact absurd a.1 (b.2 d h)
  · by_cases h2 : e < d
    · exact absurd b.1 (a.2 e h2)
    · omega
/-- the next pair needs one letter less -/
theorem IsD.down (k : Kin M N) {d : Nat} {p : Pr} (hp : InP M N p) (h : IsD M N (d + 1) p) : ∃ a, 0 ≤ a ∧ a < M.ls ∧ IsD M N d (stepP M N p a) := by
  rcases dn_succ.mp h.1 with b | ⟨a, h0, h1, q⟩
  · exact absurd ((dn_zero.mpr b).mono (Nat.zero_le _)) (h.2 d (by omega))
  · refine ⟨a, h0, h1, q, fun e he z => ?_⟩
    exact h.2 (e + 1) (by omega) (dn_succ.mpr (.inr ⟨a, h0, h1, z⟩))
theorem isd_all (k : Kin M N) : ∀ {d : Nat} {p : Pr}, InP M N p → IsD M N d p → ∀ e, e ≤ d → ∃ q, InP M N q ∧ IsD M N e q
  | 0, p, hp, h, e, he => ⟨p, hp, by rw [show e = 0 by omega]; exact h⟩
  | d + 1, p, hp, h, e, he => by
    by_cases c : e = d + 1
    · exact ⟨p, hp, by rw [c]; exact h⟩
    · obtain ⟨a, h0, h1, q⟩ := h.down k hp
      exact isd_all k (k.step hp h0 h1) q e (by omega)
/-- no pair is new: no pair will be -/
theorem dn_stop (k : Kin M N) {t : Nat} (h : ∀ p, InP M N p → Dn M N (t + 1) p → Dn M N t p) : ∀ (v : List Int) (p : Pr), InP M N p → Lt M.ls v → Bad M N (runP M N p v) → Dn M N t p
  | [], p, hp, _, b => (dn_zero.mpr b).mono (Nat.zero_le _)
  | a :: v, p, hp, hv, b => by
    have ha := hv a List.mem_cons_self
    have := dn_stop k h v (stepP M N p a) (k.step hp ha.1 ha.2) (fun z hz => hv z (List.mem_cons_of_mem _ hz)) b
    exact h p hp (dn_succ.mpr (.inr ⟨a, ha.1, ha.2, this⟩))
/-! the outputs of both machines' states, behind words of less than t letters -/
/-- the output behind v from a state of M, or, behind these, of N -/
def outU (M N : Mach) (x : Nat) (v : List Int) : Int := if x < M.rows.length then M.out (M.run x v) else N.out (N.run (x - M.rows.length : Int) v)
theorem runP_pair (p : Pr) : ∀ v : List Int, runP M N p v = (M.run p.1 v, N.run p.2 v) := by
  intro v
  induction v using snoc_ind with
  | h0 => rfl
  | hs v a ih =>
    rw [runP_snoc, ih, run_snoc, run_snoc]
    rfl
theorem few_rounds (k : Kin M N) {d : Nat} {p : Pr} (hp : InP M N p) (h : IsD M N d p) : d + 2 ≤ M.rows.length + N.rows.length := by
  have s1 := k.gm.s1
  refine fine_few (n := M.rows.length + N.rows.length) (d := d + 1) (R := fun t x y => ∀ v, Lt M.ls v → v.length < t → outU M N x v = outU M N y v) (by omega) (fun t => ⟨fun x v _ _ => rfl, fun x y h v a b => (h v a b).symm, fun x y z h1 h2 v a b => (h1 v a b).trans (h2 v a b)⟩)
    (fun t x y h v a b => h v a (by omega)) fun e he => ?_
  obtain ⟨q, hq, i1, i2⟩ := isd_all k hp h e (by omega)
  obtain ⟨⟨a1, a2⟩, a3, a4⟩ := hq
  have ex : ∀ v, outU M N q.1.toNat v = M.out (M.run q.1 v) := fun v => by
    unfold outU
    rw [if_pos (by omega), show ((q.1.toNat : Nat) : Int) = q.1 by omega]
  have ey : ∀ v, outU M N (q.2.toNat + M.rows.length) v = N.out (N.run q.2 v) := fun v => by
    unfold outU
    rw [if_neg (by omega), show (((q.2.toNat + M.rows.length : Nat) : Int) - (M.rows.length : Int)) = q.2 by omega]
  refine ⟨q.1.toNat, q.2.toNat + M.rows.length, by omega, by omega, fun v hv lv => ?_, fun z => ?_⟩
  · rw [ex, ey]
    refine Classical.byContradiction fun ne => ?_
    cases e with
    | zero => exact absurd lv (Nat.not_lt_zero _)
    | succ e => exact i2 e (by omega) ⟨v, hv, by omega, by rw [runP_pair]; exact ne⟩
  · obtain ⟨v, hv, lv, b⟩ := i1
    rw [runP_pair] at b
    have := z v hv (by omega)
    rw [ex, ey] at this
    exact b this
end
end Mz

set_option Elab.async false
set_option linter.all false
set_option maxRecDepth 100000
set_option maxHeartbeats 4000000
/-! the states of one machine that answer alike, by rounds -/
namespace Mz
open PySem PySem.Spec PyProof.Rows L2
/-- alike behind words of at most t letters -/
def RM (M : Mach) (t i j : Nat) : Prop := ∀ v, Lt M.ls v → v.length ≤ t → M.out (M.run i v) = M.out (M.run j v)
/-- alike behind all words -/
def EqM (M : Mach) (i j : Nat) : Prop := ∀ v, Lt M.ls v → M.out (M.run i v) = M.out (M.run j v)
theorem eqv_RM (M : Mach) (n t : Nat) : Eqv n (RM M t) := ⟨fun x v _ _ => rfl, fun x y h v a b => (h v a b).symm, fun x y z h1 h2 v a b => (h1 v a b).trans (h2 v a b)⟩
def LeastOf (R : Nat → Nat → Prop) (i g : Nat) : Prop := g ≤ i ∧ R i g ∧ ∀ j, j < g → ¬ R i j
/-- s tells the least of each class -/
def Rep (R : Nat → Nat → Prop) (n : Nat) (s : List Int) : Prop := s.length = n ∧ ∀ i, i < n → ∃ g : Nat, s[i]? = some (g : Int) ∧ LeastOf R i g
theorem rep_of {α : Type} [DecidableEq α] {l : List α} {R : Nat → Nat → Prop} (h : ∀ (i j : Nat) (x y : α), l[i]? = some x → l[j]? = some y → (x = y ↔ R i j)) : Rep R l.length (l.map (fi l)) := by
  refine ⟨List.length_map .., fun i hi => ?_⟩
  have ei := List.getElem?_eq_getElem hi
  have hex : ∃ y ∈ l, decide (y = l[i]) = true := ⟨l[i], List.getElem_mem hi, decide_eq_true rfl⟩
  have lt : l.findIdx (fun y => decide (y = l[i])) < l.length := List.findIdx_lt_length_of_exists hex
  have at_ : l[l.findIdx (fun y => decide (y = l[i]))] = l[i] := of_decide_eq_true (List.findIdx_getElem (w := lt))
  refine ⟨l.findIdx fun y => decide (y = l[i]), by rw [List.getElem?_map, ei]; rfl, ?_, ?_, fun j hj r => ?_⟩
  · refine Nat.le_of_not_lt fun c => ?_
    have := List.not_of_lt_findIdx c
    simp at this
  · exact (h i _ _ _ ei (List.getElem?_eq_getElem lt)).mp at_.symm
  · have jl : j < l.length := by omega
    have e := (h i j _ _ ei (List.getElem?_eq_getElem jl)).mpr r
    have := List.not_of_lt_findIdx hj
    simp at this
    exact this e.symm
theorem rep_eq {n : Nat} {R : Nat → Nat → Prop} {s : List Int} (E : Eqv n R) (r : Rep R n s) {i j : Nat} (hi : i < n) (hj : j < n) : s.getD i 0 = s.getD j 0 ↔ R i j := by
  obtain ⟨g, e1, l1, q1, m1⟩ := r.2 i hi
  obtain ⟨k, e2, l2, q2, m2⟩ := r.2 j hj
  rw [List.getD_eq_getElem?_getD, List.getD_eq_getElem?_getD, e1, e2]
  constructor
  · intro h
    have h : (g : Int) = k := h
    have h : g = k := by omega
    subst h
    exact E.trans _ _ _ q1 (E.symm _ _ q2)
  · intro h
    show (g : Int) = k
    have : g = k := by
      by_cases c : g < k
      · exact absurd (E.trans _ _ _ (E.symm _ _ h) q1) (m2 g c)
      · by_cases c2 : k < g
        · exact absurd (E.trans _ _ _ h q2) (m1 k c2)
        · omega
    rw [this]
theorem rep_uniq {n : Nat} {R : Nat → Nat → Prop} {s u : List Int} (a : Rep R n s) (b : Rep R n u) : s = u := by
  apply List.ext_getElem? 
  intro i
  by_cases h : i < n
  · obtain ⟨g, e1, l1, q1, m1⟩ := a.2 i h
    obtain ⟨k, e2, l2, q2, m2⟩ := b.2 i h
    have : g = k := by
      by_cases c : g < k
      · exact absurd q1 (m2 g c)
      · by_cases c2 : k < g
        · exact absurd q2 (m1 k c2)
        · omega
    rw [e1, e2, this]
  · rw [List.getElem?_eq_none (by rw [a.1]; omega), List.getElem?_eq_none (by rw [b.1]; omega)]
theorem rep_mono {n : Nat} {R S : Nat → Nat → Prop} {s : List Int} (h : ∀ i j, i < n → j < n → (R i j ↔ S i j)) (r : Rep R n s) : Rep S n s := by
  refine ⟨r.1, fun i hi => ?_⟩
  obtain ⟨g, e, l, q, m⟩ := r.2 i hi
  exact ⟨g, e, l, (h i g hi (by omega)).mp q, fun j hj z => m j hj ((h i j hi (by omega)).mpr z)⟩
/-! ### one round -/
theorem RM_zero {M : Mach} {i j : Nat} : RM M 0 i j ↔ M.out i = M.out j := by
  constructor
  · intro h
    exact h [] (fun z hz => absurd hz (by simp)) (Nat.le_refl _)
  · intro h v _ lv
    have : v = [] := List.length_eq_zero_iff.mp (by omega)
    subst this
    exact h
theorem RM_succ {M : Mach} (g : Good M) {t i j : Nat} (hi : M.St i) (hj : M.St j) : RM M (t + 1) i j ↔ RM M t i j ∧ ∀ a, 0 ≤ a → a < M.ls → RM M t (M.next i a).toNat (M.next j a).toNat := by
  have back : ∀ {k : Nat} {a : Int}, M.St k → 0 ≤ a → a < M.ls → (((M.next k a).toNat : Nat) : Int) = M.next k a := fun {k a} hk h0 h1 => by
    have := (g.step hk h0 h1).1.1
    omega
  constructor
  · intro h
    refine ⟨fun v a b => h v a (by omega), fun a h0 h1 v hv lv => ?_⟩
    rw [back hi h0 h1, back hj h0 h1]
    refine h (a :: v) (fun z hz => ?_) (by rw [List.length_cons]; omega)
    rcases List.mem_cons.mp hz with e | e
    · rw [e]
      exact ⟨h0, h1⟩
    · exact hv z e
  · rintro ⟨h1, h2⟩ v hv lv
    cases v with
    | nil => exact h1 [] hv (Nat.zero_le _)
    | cons a v =>
      have ha := hv a List.mem_cons_self
      have := h2 a ha.1 ha.2 v (fun z hz => hv z (List.mem_cons_of_mem _ hz)) (by rw [List.length_cons] at lv; omega)
      rw [back hi ha.1 ha.2, back hj ha.1 ha.2] at this
      exact this
/-- the marks of a round -/
def markOf (M : Mach) (s : List Int) (i : Nat) : PK := (s.getD i 0, (M.rows.getD i []).map fun z => s.getD z.toNat 0)
theorem mark_eq {M : Mach} (g : Good M) {s : List Int} {t : Nat} (r : Rep (RM M t) M.rows.length s) {i j : Nat} (hi : i < M.rows.length) (hj : j < M.rows.length) : markOf M s i = markOf M s j ↔ RM M (t + 1) i j := by
  have si : M.St i := ⟨by omega, by omega⟩
  have sj : M.St j := ⟨by omega, by omega⟩
  have E := eqv_RM M M.rows.length t
  have row : ∀ {k : Nat}, k < M.rows.length → M.rows.getD k [] ∈ M.rows := fun {k} hk => by
    rw [List.getD_eq_getElem?_getD, List.getElem?_eq_getElem hk]
    exact List.getElem_mem hk
  have nx : ∀ {k : Nat} (a : Nat), (a : Int) < M.ls → k < M.rows.length → ((M.rows.getD k []).map fun z => s.getD z.toNat 0)[a]? = some (s.getD (M.next k a).toNat 0) ∧ (M.next k a).toNat < M.rows.length := fun {k} a ha hk => by
    have hk2 : M.St k := ⟨by omega, by omega⟩
    obtain ⟨st, w, e1, e2⟩ := g.step hk2 (show (0 : Int) ≤ a by omega) ha
    have e3 : M.rows.getD k [] = w := by
      rw [List.getD_eq_getElem?_getD]
      rw [show ((k : Int)).toNat = k by omega] at e1
      rw [e1]
      rfl
    rw [show ((a : Int)).toNat = a by omega] at e2
    refine ⟨by rw [e3, List.getElem?_map, e2]; rfl, ?_⟩
    have := st.1
    have := st.2
    omega
  rw [RM_succ g si sj]
  unfold markOf
  constructor
  · intro h
    injection h with h1 h2
    refine ⟨(rep_eq E r hi hj).mp h1, fun a h0 h3 => ?_⟩
    have a1 : (a.toNat : Int) < M.ls := by omega
    have q1 := nx a.toNat a1 hi
    have q2 := nx a.toNat a1 hj
    rw [show ((a.toNat : Nat) : Int) = a by omega] at q1 q2
    rw [h2, q2.1] at q1
    exact (rep_eq E r q1.2 q2.2).mp (Option.some.inj q1.1).symm
  · rintro ⟨h1, h2⟩
    refine Prod.ext ((rep_eq E r hi hj).mpr h1) ?_
    have li := g.rl _ (row hi)
    have lj := g.rl _ (row hj)
    apply List.ext_getElem?
    intro a
    by_cases c : (a : Int) < M.ls
    · have q1 := nx a c hi
      have q2 := nx a c hj
      show ((M.rows.getD i []).map fun z => s.getD z.toNat 0)[a]? = ((M.rows.getD j []).map fun z => s.getD z.toNat 0)[a]?
      rw [q1.1, q2.1, (rep_eq E r q1.2 q2.2).mpr (h2 a (by omega) c)]
    · rw [List.getElem?_eq_none (by rw [List.length_map]; omega), List.getElem?_eq_none (by rw [List.length_map]; omega)]
/-- a round that brings nothing: all is told -/
theorem stop_all {M : Mach} (g : Good M) {t : Nat} (h : ∀ i j, i < M.rows.length → j < M.rows.length → RM M t i j → RM M (t + 1) i j) : ∀ (v : List Int) (i j : Nat), i < M.rows.length → j < M.rows.length → RM M t i j → Lt M.ls v → M.out (M.run i v) = M.out (M.run j v)
  | [], i, j, hi, hj, r, _ => r [] (fun z hz => absurd hz (by simp)) (Nat.zero_le _)
  | a :: v, i, j, hi, hj, r, hv => by
    have si : M.St i := ⟨by omega, by omega⟩
    have sj : M.St j := ⟨by omega, by omega⟩
    have ha := hv a List.mem_cons_self
    have n1 := (g.step si ha.1 ha.2).1
    have n2 := (g.step sj ha.1 ha.2).1
    have q := ((RM_succ g si sj).mp (h i j hi hj r)).2 a ha.1 ha.2
    have := stop_all g h v _ _ (by have := n1.1; have := n1.2; omega) (by have := n2.1; have := n2.2; omega) q fun z hz => hv z (List.mem_cons_of_mem _ hz)
    rw [show (((M.next i a).toNat : Nat) : Int) = M.next i a by have := n1.1; omega, show (((M.next j a).toNat : Nat) : Int) = M.next j a by have := n2.1; omega] at this
    exact this
end Mz

set_option Elab.async false
set_option linter.all false
set_option maxRecDepth 100000
set_option maxHeartbeats 4000000
namespace K25
open PySem PySem.Spec PyProof.Rows L2 Mz
def spClasses : Sp := fun vs H Q _ => ∃ (m : Addr) (M : Mach), vs = [.ref m] ∧ MA H m M ∧ Good M ∧ ∀ (H' : Hp) (p : Addr) (G : List Int), Same H H' → H p = none → H' p = some (.lst (G.map V.int)) → Rep (EqM M) M.rows.length G → Q (.ref p) H'
theorem iteT1 {A B : Prop} (h : A) : if true = true then A else B := h
theorem paired_snoc {α β : Type} {F : α → β → Prop} : ∀ {l1 : List α} {l2 : List β} {x : α} {y : β}, Paired F l1 l2 → F x y → Paired F (l1 ++ [x]) (l2 ++ [y])
  | _, _, _, _, .nil, h => .cons h .nil
  | _, _, _, _, .cons a t, h => .cons a (paired_snoc t h)
section
variable {P : Program} {w : World} {K : PySem.W.Frag} {mg : Str → Option Value} {base : Heap} {A : Ads}
theorem ok_classes (T : Txt K mg A) : FnOk P w K mg base CX0 2 A.a_classes A.d_classes ["machine"] spClasses := by
  have G_first_places : FnOk P w K mg base CX0 1 A.a_first_places A.d_first_places ["marks"] (spPlaces K) := ok_places T
  refine T.F_classes.ok sc_classes (fun vs H Q E h => ?_) (fun cdv Ar outer s H vs Q E hr h => ?_)
  · obtain ⟨_, _, rfl, _⟩ := h
    rfl
  · obtain ⟨m, M, rfl, ⟨mv, ou, rs, hM⟩, g, fin⟩ := h
    have hr_first_places : Room 1 _ := hr
    refine ⟨_, (pss_cons (ps_set (i := 1) sc_classes.nd rfl (Or.inl rfl) (pe_ix (r := rIx K) ix_seq (pv 0) pe_int (fun _ _ => rfl)))
      (pss_cons (ps_set (i := 2) sc_classes.nd rfl (Or.inr rfl) (pe_call G_first_places hr_first_places (by rfl) T.g_first_places T.F_first_places.kp T.b_first_places .nil pass0 (pa_cons (pe_ix (r := rIx K) ix_seq (pv 0) pe_int (fun _ _ => rfl)) pa_nil)))
      (pss_one (ps_while PassesOwn.never (pt_val pe_bl) (pss_cons (ps_setLc (i := 3) (own := [("state", 5), ("row", 6)]) (g := (gTup K 2 (gCons (gName 5) (gCons (gName 6) gNil)))) (tt := tYes) rfl sc_classes.nd rfl rfl (sw_true rfl rfl rfl (by decide +kernel)) (pi_enumT (by rfl) T.n_enumerate (pa_cons (pv 1) pa_nil)) (blkOk_by (N := ["machine", "moves", "same", "marks", "finer", "state", "row", "after"]) (sc := defScope s_classes) (by decide +kernel)) (fun _ _ _ _ _ => (pg_tup rfl (pgs_cons (pg_name (i := 5) sc_classes.nd rfl (Or.inl rfl)) (pgs_cons (pg_name (i := 6) sc_classes.nd rfl (Or.inl rfl)) pgs_nil)))) (fun _ _ _ _ _ => pts_nil) (fun _ _ _ _ _ => (pe_tup (pa_cons (pe_ix (r := rIx K) ix_seq (pv 2) (pv 5) (fun _ _ => rfl)) (pa_cons (pe_callTy (r := rTof K) (T := "tuple") call_tof (by rfl) T.n_tuple (by decide +kernel) (pa_cons (pe_lc (own := [("after", 7)]) (g := (gName 7)) (tt := tYes) (wi := iTup K (tVar 6)) rfl sc_classes.nd (pi_tup (pv 6)) (blkOk_at (blkOk_by (N := ["machine", "moves", "same", "marks", "finer", "state", "row", "after"]) (sc := { kind := .function, names := [(".0", .local), ("state", .local), ("row", .local), ("tuple", .globalImplicit), ("same", .cell)], isGenerator := false, isCoroutine := false }) (by decide +kernel)) (by rfl) (by rfl)) (fun _ _ _ _ _ => (pg_name (i := 7) sc_classes.nd rfl (Or.inl rfl))) (fun _ _ _ _ _ => pts_nil) (fun _ _ _ _ _ => (pe_ix (r := rIx K) ix_seq (pv 2) (pv 7) (fun _ _ => rfl)))) pa_nil)) pa_nil)))))
          (pss_cons (ps_set (i := 4) sc_classes.nd rfl (Or.inl rfl) (pe_call G_first_places hr_first_places (by rfl) T.g_first_places T.F_first_places.kp T.b_first_places .nil pass0 (pa_cons (pv 3) pa_nil)))
          (pss_cons (ps_if (pt_cmpR (op_eqD hr.units) (pv 4) (pv 2) (nomark _)) (pss_one (ps_ret (pv 2))) pss_nil)
          (pss_one (ps_set (i := 2) sc_classes.nd rfl (Or.inr rfl) (pv 4)))))))))), ?_⟩
    have n30 := g.s30
    have nol := g.ol
    refine ⟨_, rfl, .inr (.inl ⟨m, _, 2, .ref mv, rfl, rfl, SqT.of hM.top, rfl, ?_⟩)⟩
    refine ⟨_, rfl, .inr (.inl ⟨m, _, 3, .ref ou, rfl, rfl, SqT.of hM.top, rfl, ?_⟩)⟩
    refine ⟨ou, _, _, rfl, .mi M.outs (.inr (SqT.of hM.ou)), by rw [List.length_map]; omega, fun H1 p1 s1 f1 e1 => ?_⟩
    have r0 : Rep (RM M 0) M.rows.length (firsts M.outs) := by
      have r := rep_of (l := M.outs) (R := RM M 0) fun i j x y hx hy => ?_
      · rw [nol] at r
        exact r
      · rw [RM_zero]
        unfold Mach.out
        rw [show ((i : Int)).toNat = i by omega, show ((j : Int)).toNat = j by omega, List.getD_eq_getElem?_getD, List.getD_eq_getElem?_getD, hx, hy]
        exact Iff.rfl
    refine ⟨fun k σ H' => ∃ (t : Nat) (p : Addr) (S : List Int) (v3 v4 : Option V), k = M.rows.length - cnt M.rows.length (RM M t) ∧ σ = [some (.ref m), some (.ref mv), some (.ref p), v3, v4, none, none, none] ∧ Same H H' ∧ H p = none ∧ H' p = some (.lst (S.map V.int)) ∧ Rep (RM M t) M.rows.length S,
      ⟨_, 0, p1, firsts M.outs, none, none, rfl, rfl, s1, f1, e1, r0⟩, ?_⟩
    rintro k σ H2 ⟨t, p, S, v3, v4, rfl, rfl, s2, fp, ep, rS⟩
    refine ⟨_, rfl, ?_⟩
    refine iteT1 ⟨fun σ' H' => ∃ (p' : Addr) (S' : List Int) (v3 v4 : Option V), σ' = [some (.ref m), some (.ref mv), some (.ref p'), v3, v4, none, none, none] ∧ Same H H' ∧ H p' = none ∧ H' p' = some (.lst (S'.map V.int)) ∧ Rep (RM M (t + 1)) M.rows.length S' ∧ cnt M.rows.length (RM M t) < cnt M.rows.length (RM M (t + 1)),
      fun σ' H' ⟨p', S', v3, v4, q1, q2, q3, q4, q5, q6⟩ => ⟨M.rows.length - cnt M.rows.length (RM M (t + 1)), by have := cnt_le M.rows.length (RM M (t + 1)); omega, t + 1, p', S', v3, v4, rfl, q1, q2, q3, q4, q5⟩, ?_⟩
    have hM2 := hM.same s2
    have lS := rS.1
    have l30 : (rs.map V.ref).length = M.rows.length := by rw [List.length_map, hM.len]
    refine ⟨_, rfl, mv, rfl, .inr ⟨⟨_, SqT.of hM2.mv⟩, fun D hD => ?_⟩⟩
    have fD : H D = none := s2.free hD
    refine lc_it (walk_enumT (xs := rs.map V.ref)) (fun i H' => ∃ as : List Addr, H' D = some (.lst (as.map V.ref)) ∧ as.length = i ∧ Same H2 H' ∧ Paired (fun b q => KeyAt H' b q) as ((List.range i).map (markOf M S)))
      ⟨[], upd_same, rfl, same_upd (Same.refl _) hD, .nil⟩ (fun i H' _ ⟨_, _, _, z, _⟩ => SqT.of (z _ _ hM2.mv)) ?_ ?_
    · rintro i y H3 H3' hi ⟨as, e1, e2, z, kk⟩ ⟨T, x, v, rfl, hT, rfl, h1, h2⟩
      rw [l30] at hi
      obtain ⟨r, hr1, rfl⟩ := ofV h2
      cases h1
      have hw0 := List.getElem?_eq_getElem hi
      have zT := same_upd (o := .tup [.int (i : Int), .ref r]) (Same.refl H3) hT
      have TD : T ≠ D := fun q => by
        rw [q, e1] at hT
        cases hT
      refine ⟨T, _, rfl, SqT.of upd_same, rfl, _, _, rfl, _, _, rfl, rfl, ?_⟩
      refine ⟨rfl, ?_⟩
      have z4 := z.trans zT
      have ep4 := z4 _ _ ep
      have er4 := z4 _ _ (hM2.row i r _ hr1 hw0)
      have eD4 := zT _ _ e1
      have k4 : Paired (fun b q => KeyAt (upd H3 T (.tup [.int (i : Int), .ref r])) b q) as ((List.range i).map (markOf M S)) := Paired.mapP kk fun _ _ q => q.same zT
      generalize upd H3 T (.tup [.int (i : Int), .ref r]) = H4 at z4 ep4 er4 eD4 k4
      have getS : ∀ j : Nat, j < M.rows.length → S[j]? = some (S.getD j 0) := fun j hj => by
        rw [List.getD_eq_getElem?_getD, List.getElem?_eq_getElem (by omega)]
        rfl
      have inR := List.getElem_mem hi
      refine ⟨_, rfl, _, rfl, .inl ⟨p, _, _, _, rfl, rfl, SqL.of ep4, atI_get? (z := S.getD i 0) (by omega) (by rw [show ((i : Int)).toNat = i by omega]; exact getS i hi), ?_⟩⟩
      refine ⟨_, rfl, r, rfl, ⟨_, SqT.of er4⟩, fun D2 hD2 => ?_⟩
      have sD2 := fun o => same_upd (o := o) (Same.refl H4) hD2
      refine lc_tup (K := K) (a := r) (xs := M.rows[i].map V.int) (fun j H' => H' = upd H4 D2 (.lst (((M.rows[i].take j).map fun z => S.getD z.toNat 0).map V.int))) rfl (fun j H' _ e => by rw [e]; exact SqT.of (sD2 _ _ _ er4)) ?_ ?_
      · rintro j y H5 hj rfl
        obtain ⟨z1, hz1, rfl⟩ := ofV hj
        have zb := g.rb _ inR z1 (List.mem_of_getElem? hz1)
        refine ⟨rfl, ?_⟩
        refine ⟨_, rfl, _, rfl, .inl ⟨p, _, _, _, rfl, rfl, SqL.of (sD2 _ _ _ ep4), atI_get? (z := S.getD z1.toNat 0) zb.1 (getS _ (by omega)), ?_⟩⟩
        refine ⟨_, upd_same, ?_, ?_⟩
        · rw [List.length_map, List.length_map, List.length_take]
          have := g.rl _ inR
          have := g.l4
          exact Nat.lt_of_le_of_lt (by omega : min j M.rows[i].length ≤ 1000) (by decide)
        · rw [upd_upd, take_more hz1, List.map_append, List.map_append]
          rfl
      · rintro H5 rfl
        rw [List.length_map, List.take_length]
        refine ⟨D2, _, rfl, .inl ⟨SqL.of upd_same, fun b hb => ?_⟩⟩
        have s5 := (sD2 (.lst ((M.rows[i].map fun z => S.getD z.toNat 0).map V.int))).trans (same_upd (o := .tup ((M.rows[i].map fun z => S.getD z.toNat 0).map V.int)) (Same.refl _) hb)
        refine ⟨(by show 2 ≤ sizeLine; decide), fun q hq => ?_⟩
        have s6 := same_upd (o := .tup [.int (S.getD i 0), .ref b]) s5 hq
        have kb := (same_upd (o := .tup [.int (S.getD i 0), .ref b]) (Same.refl _) hq) _ _ (upd_same (H := upd H4 D2 (.lst ((M.rows[i].map fun z => S.getD z.toNat 0).map V.int))) (a := b) (o := .tup ((M.rows[i].map fun z => S.getD z.toNat 0).map V.int)))
        have eD6 := s6 _ _ eD4
        refine ⟨_, eD6, ?_, as ++ [q], ?_, by rw [List.length_append, e2]; rfl, ?_, ?_⟩
        · rw [List.length_map]
          exact Nat.lt_of_le_of_lt (by omega : as.length ≤ 1000) (by decide)
        · rw [upd_same, List.map_append]
          rfl
        · exact same_set (z4.trans s6) hD
        · have keep : ∀ {c : Addr} {pk : PK}, KeyAt (upd (upd (upd H4 D2 (.lst ((M.rows[i].map fun z => S.getD z.toNat 0).map V.int))) b (.tup ((M.rows[i].map fun z => S.getD z.toNat 0).map V.int))) q (.tup [.int (S.getD i 0), .ref b])) c pk →
              KeyAt (upd (upd (upd (upd H4 D2 (.lst ((M.rows[i].map fun z => S.getD z.toNat 0).map V.int))) b (.tup ((M.rows[i].map fun z => S.getD z.toNat 0).map V.int))) q (.tup [.int (S.getD i 0), .ref b])) D (.lst (as.map V.ref ++ [.ref q]))) c pk := fun {c pk} ⟨d, k1, k2⟩ =>
            ⟨d, by rw [upd_ne fun zz => by rw [zz, eD6] at k1; cases k1]; exact k1, by rw [upd_ne fun zz => by rw [zz, eD6] at k2; cases k2]; exact k2⟩
          rw [List.range_succ, List.map_append]
          refine paired_snoc (Paired.mapP k4 fun _ _ k => keep (k.same s6)) (keep ⟨b, upd_same, ?_⟩)
          have e3 : M.rows.getD i [] = M.rows[i] := by
            rw [List.getD_eq_getElem?_getD, hw0]
            rfl
          show _ = some (HO.tup (((M.rows.getD i []).map fun z => S.getD z.toNat 0).map V.int))
          rw [e3]
          exact kb
    · rintro H3 ⟨as, e1, e2, z, kk⟩
      rw [l30] at e2 kk
      have s23 := s2.trans z
      refine ⟨_, rfl, D, _, _, rfl, .mp as _ (SqL.of e1) kk, by rw [List.length_map]; omega, fun H4 p4 z4 f4 e4 => ?_⟩
      have rF : Rep (RM M (t + 1)) M.rows.length (firsts ((List.range M.rows.length).map (markOf M S))) := by
        have r := rep_of (l := (List.range M.rows.length).map (markOf M S)) (R := RM M (t + 1)) fun i j x y hx hy => ?_
        · rw [List.length_map, List.length_range] at r
          exact r
        · have li := (List.getElem?_eq_some_iff.mp hx).1
          have lj := (List.getElem?_eq_some_iff.mp hy).1
          rw [List.length_map, List.length_range] at li lj
          rw [List.getElem?_map, List.getElem?_range li] at hx
          rw [List.getElem?_map, List.getElem?_range lj] at hy
          cases hx
          cases hy
          exact mark_eq g rS li lj
      have ep4 := z4 _ _ (z _ _ ep)
      refine ⟨_, rfl, _, rfl, eq_lists (SqL.of e4) (SqL.of ep4) ⟨_, rfl, ?_⟩⟩
      have fine : ∀ x y, RM M (t + 1) x y → RM M t x y := fun x y h v a b => h v a (by omega)
      refine ite2 (fun c => ?_) (fun c => ?_)
      · have c := of_decide_eq_true c
        refine ⟨_, rfl, fin H4 p S (s23.trans z4) fp ep4 (rep_mono (fun i j hi hj => ⟨fun h v hv => ?_, fun h v hv _ => h v hv⟩) rS)⟩
        refine stop_all g (fun i j hi hj h => ?_) v i j hi hj h hv
        rw [c] at rF
        exact (rep_eq (eqv_RM M M.rows.length (t + 1)) rF hi hj).mp ((rep_eq (eqv_RM M M.rows.length t) rS hi hj).mpr h)
      · refine ⟨_, rfl, p4, _, _, _, rfl, s23.trans z4, s23.free f4, e4, rF, cnt_lt (eqv_RM M M.rows.length t) (eqv_RM M M.rows.length (t + 1)) fine (Classical.byContradiction fun no => c (decide_eq_true ?_))⟩
        refine rep_uniq rF (rep_mono (fun i j hi hj => ⟨fun h => ?_, fine i j⟩) rS)
        exact Classical.byContradiction fun n => no ⟨i, j, hi, hj, h, n⟩
end
end K25

set_option Elab.async false
set_option linter.all false
set_option maxRecDepth 100000
set_option maxHeartbeats 4000000
/-! the order in which classes are met; machines that answer alike have the same least machine -/
namespace Mz
open PySem PySem.Spec PyProof.Rows L2
/-- the class of a state -/
def cls (G : List Int) (z : Int) : Int := G.getD z.toNat 0
def addC (o : List Int) (c : Int) : List Int := if c ∈ o then o else o ++ [c]
def ordStep (G row o : List Int) : List Int := row.foldl (fun o z => addC o (cls G z)) o
/-- the order when the places below k are done -/
def ordAt (M : Mach) (G : List Int) : Nat → List Int
  | 0 => [cls G 0]
  | k + 1 => if k < (ordAt M G k).length then ordStep G (M.rows.getD ((ordAt M G k).getD k 0).toNat []) (ordAt M G k) else ordAt M G k
/-- the least machine, as an order tells it -/
def leastBy (M : Mach) (G o : List Int) : Mach :=
  ⟨M.ls, M.os, o.map fun c => (M.rows.getD c.toNat []).map fun z => ((o.findIdx fun y => decide (y = cls G z) : Nat) : Int), o.map fun c => M.out c⟩
/-- states that answer alike -/
def Sim (M N : Mach) (x y : Int) : Prop := ∀ v, Lt M.ls v → M.out (M.run x v) = N.out (N.run y v)
section
variable {M N : Mach} {G F : List Int}
/-- a class's own state -/
def IsRp (M : Mach) (G : List Int) (c : Int) : Prop := M.St c ∧ cls G c = c
theorem cls_rp (g : Good M) (r : Rep (EqM M) M.rows.length G) {z : Int} (h : M.St z) : IsRp M G (cls G z) ∧ Sim M M z (cls G z) := by
  obtain ⟨c, e, l, q, m⟩ := r.2 z.toNat (by have := h.1; have := h.2; omega)
  have ez : ((z.toNat : Nat) : Int) = z := by have := h.1; omega
  have ec : cls G z = (c : Int) := by
    unfold cls
    rw [List.getD_eq_getElem?_getD, e]
    rfl
  have cl : c < M.rows.length := by have := h.1; have := h.2; omega
  obtain ⟨d, e2, l2, q2, m2⟩ := r.2 c cl
  have dc : d = c := by
    by_cases c3 : d < c
    · refine absurd (fun v hv => ?_) (m d c3)
      exact (q v hv).trans (q2 v hv)
    · omega
  refine ⟨⟨?_, ?_⟩, ?_⟩
  · rw [ec]
    exact ⟨by omega, by omega⟩
  · rw [ec]
    unfold cls
    rw [show ((c : Int)).toNat = c by omega, List.getD_eq_getElem?_getD, e2, dc]
    rfl
  · intro v hv
    have := q v hv
    rw [ez] at this
    rw [ec]
    exact this
theorem rp_uniq (g : Good M) (r : Rep (EqM M) M.rows.length G) {c d : Int} (hc : IsRp M G c) (hd : IsRp M G d) (s : Sim M M c d) : c = d := by
  have E : Eqv M.rows.length (EqM M) := ⟨fun x v _ => rfl, fun x y h v a => (h v a).symm, fun x y z h1 h2 v a => (h1 v a).trans (h2 v a)⟩
  have h1 := (rep_eq E r (i := c.toNat) (j := d.toNat) (by have := hc.1.1; have := hc.1.2; omega) (by have := hd.1.1; have := hd.1.2; omega)).mpr (fun v hv => by
    rw [show ((c.toNat : Nat) : Int) = c by have := hc.1.1; omega, show ((d.toNat : Nat) : Int) = d by have := hd.1.1; omega]
    exact s v hv)
  have e1 : G.getD c.toNat 0 = c := hc.2
  have e2 : G.getD d.toNat 0 = d := hd.2
  rw [e1, e2] at h1
  exact h1
theorem Sim.step (g : Good M) (ls : M.ls = N.ls) {x y a : Int} (s : Sim M N x y) (h0 : 0 ≤ a) (h1 : a < M.ls) : Sim M N (M.next x a) (N.next y a) := fun v hv =>
  s (a :: v) fun z hz => by
    rcases List.mem_cons.mp hz with e | e
    · rw [e]
      exact ⟨h0, h1⟩
    · exact hv z e
/-- orders of both, place by place alike -/
abbrev Both (M N : Mach) (G F o u : List Int) : Prop := Paired (fun c d => IsRp M G c ∧ IsRp N F d ∧ Sim M N c d) o u
theorem both_mem (ls : M.ls = N.ls) (gm : Good M) (gn : Good N) (rm : Rep (EqM M) M.rows.length G) (rn : Rep (EqM N) N.rows.length F) {c d : Int} (hc : IsRp M G c) (hd : IsRp N F d) (s : Sim M N c d) :
    ∀ {o u : List Int}, Both M N G F o u → (c ∈ o ↔ d ∈ u) ∧ o.findIdx (fun y => decide (y = c)) = u.findIdx (fun y => decide (y = d))
  | _, _, .nil => ⟨⟨fun z => absurd z (by simp), fun z => absurd z (by simp)⟩, rfl⟩
  | x :: o, y :: u, .cons ⟨h1, h2, h3⟩ t => by
    obtain ⟨i1, i2⟩ := both_mem ls gm gn rm rn hc hd s t
    have e : x = c ↔ y = d := by
      constructor
      · rintro rfl
        exact rp_uniq gn rn h2 hd fun v hv => ((h3 v (by rw [ls]; exact hv)).symm.trans (s v (by rw [ls]; exact hv)))
      · rintro rfl
        exact rp_uniq gm rm h1 hc fun v hv => (h3 v hv).trans (s v hv).symm
    refine ⟨by rw [List.mem_cons, List.mem_cons, i1, eq_comm, e, eq_comm (a := d)], ?_⟩
    rw [List.findIdx_cons, List.findIdx_cons, i2]
    by_cases q : x = c
    · rw [decide_eq_true q, decide_eq_true (e.mp q)]
    · rw [decide_eq_false q, decide_eq_false fun z => q (e.mpr z)]
theorem paired_app {α β : Type} {R : α → β → Prop} : ∀ {l1 : List α} {l2 : List β} {x : α} {y : β}, Paired R l1 l2 → R x y → Paired R (l1 ++ [x]) (l2 ++ [y])
  | _, _, _, _, .nil, h => .cons h .nil
  | _, _, _, _, .cons a t, h => .cons a (paired_app t h)
/-- rows of states that answer alike -/
theorem both_row (ls : M.ls = N.ls) (gm : Good M) (gn : Good N) (rm : Rep (EqM M) M.rows.length G) (rn : Rep (EqM N) N.rows.length F) :
    ∀ {w x : List Int}, Paired (fun z z' => M.St z ∧ N.St z' ∧ Sim M N z z') w x → ∀ {o u : List Int}, Both M N G F o u → Both M N G F (ordStep G w o) (ordStep F x u)
  | _, _, .nil, _, _, b => b
  | z :: w, z' :: x, .cons ⟨h1, h2, h3⟩ t, o, u, b => by
    obtain ⟨r1, s1⟩ := cls_rp gm rm h1
    obtain ⟨r2, s2⟩ := cls_rp gn rn h2
    have s : Sim M N (cls G z) (cls F z') := fun v hv => (s1 v hv).symm.trans ((h3 v hv).trans (s2 v (by rw [← ls]; exact hv)))
    obtain ⟨m1, _⟩ := both_mem ls gm gn rm rn r1 r2 s b
    refine both_row ls gm gn rm rn t (o := addC o (cls G z)) (u := addC u (cls F z')) ?_
    unfold addC
    by_cases c : cls G z ∈ o
    · rw [if_pos c, if_pos (m1.mp c)]
      exact b
    · rw [if_neg c, if_neg fun z => c (m1.mpr z)]
      exact paired_app b ⟨r1, r2, s⟩
theorem rows_sim (ls : M.ls = N.ls) (gm : Good M) (gn : Good N) {c d : Int} (hc : M.St c) (hd : N.St d) (s : Sim M N c d) : Paired (fun z z' => M.St z ∧ N.St z' ∧ Sim M N z z') (M.rows.getD c.toNat []) (N.rows.getD d.toNat []) := by
  obtain ⟨w, e1, e2, e3⟩ := gm.row hc
  obtain ⟨x, f1, f2, f3⟩ := gn.row hd
  rw [e3, f3]
  have lw := gm.rl w e2
  have lx := gn.rl x f2
  have key : ∀ (w x : List Int), w.length = x.length → (∀ i : Nat, i < w.length → ∃ p q, w[i]? = some p ∧ x[i]? = some q ∧ (M.St p ∧ N.St q ∧ Sim M N p q)) → Paired (fun z z' => M.St z ∧ N.St z' ∧ Sim M N z z') w x := by
    intro w
    induction w with
    | nil =>
      intro x l _
      cases x with
      | nil => exact .nil
      | cons _ _ => cases l
    | cons p w ih =>
      intro x l h
      cases x with
      | nil => cases l
      | cons q x =>
        obtain ⟨p', q', a, b, k⟩ := h 0 (by simp)
        cases a
        cases b
        exact .cons k (ih x (by simpa using l) fun i hi => h (i + 1) (by simpa using hi))
  refine key w x (by omega) fun i hi => ?_
  obtain ⟨st1, w1, a1, a2⟩ := gm.step hc (show (0 : Int) ≤ i by omega) (show (i : Int) < M.ls by omega)
  obtain ⟨st2, x1, b1, b2⟩ := gn.step hd (show (0 : Int) ≤ i by omega) (show (i : Int) < N.ls by omega)
  rw [e1] at a1
  cases a1
  rw [f1] at b1
  cases b1
  rw [show ((i : Int)).toNat = i by omega] at a2 b2
  exact ⟨_, _, a2, b2, st1, st2, s.step gm ls (by omega) (by omega)⟩
theorem paired_get {α β : Type} {R : α → β → Prop} : ∀ {l1 : List α} {l2 : List β} {i : Nat} {x : α}, Paired R l1 l2 → l1[i]? = some x → ∃ y, l2[i]? = some y ∧ R x y
  | _, _, 0, _, .cons h _, e => by
    cases e
    exact ⟨_, rfl, h⟩
  | _, _, i + 1, _, .cons _ t, e => paired_get (i := i) t e
  | _, _, 0, _, .nil, e => by cases e
  | _, _, i + 1, _, .nil, e => by cases e
/-- the orders of machines that answer alike go side by side -/
theorem both_ord (ls : M.ls = N.ls) (gm : Good M) (gn : Good N) (rm : Rep (EqM M) M.rows.length G) (rn : Rep (EqM N) N.rows.length F) (s : Sim M N 0 0) : ∀ k, Both M N G F (ordAt M G k) (ordAt N F k) := by
  intro k
  induction k with
  | zero =>
    obtain ⟨r1, s1⟩ := cls_rp gm rm gm.st0
    obtain ⟨r2, s2⟩ := cls_rp gn rn gn.st0
    exact .cons ⟨r1, r2, fun v hv => (s1 v hv).symm.trans ((s v hv).trans (s2 v (by rw [← ls]; exact hv)))⟩ .nil
  | succ k ih =>
    have len := Paired.length ih
    unfold ordAt
    by_cases c : k < (ordAt M G k).length
    · rw [if_pos c, if_pos (by omega)]
      have e := List.getElem?_eq_getElem c
      obtain ⟨y, e2, h1, h2, h3⟩ := paired_get ih e
      have g1 : (ordAt M G k).getD k 0 = (ordAt M G k)[k] := by
        rw [List.getD_eq_getElem?_getD, e]
        rfl
      have g2 : (ordAt N F k).getD k 0 = y := by
        rw [List.getD_eq_getElem?_getD, e2]
        rfl
      rw [g1, g2]
      exact both_row ls gm gn rm rn (rows_sim ls gm gn h1.1 h2.1 h3) ih
    · rw [if_neg c, if_neg (by omega)]
      exact ih
theorem paired_map {α β γ : Type} {R : α → β → Prop} {f : α → γ} {h : β → γ} : ∀ {l1 : List α} {l2 : List β}, Paired R l1 l2 → (∀ x y, R x y → f x = h y) → l1.map f = l2.map h
  | _, _, .nil, _ => rfl
  | _, _, .cons a t, k => by rw [List.map_cons, List.map_cons, k _ _ a, paired_map t k]
/-- machines that answer alike have the same least machine -/
theorem least_same (ls : M.ls = N.ls) (os : M.os = N.os) (gm : Good M) (gn : Good N) (rm : Rep (EqM M) M.rows.length G) (rn : Rep (EqM N) N.rows.length F) (s : Sim M N 0 0) (k : Nat) : leastBy M G (ordAt M G k) = leastBy N F (ordAt N F k) := by
  have b := both_ord ls gm gn rm rn s k
  unfold leastBy
  rw [ls, os]
  congr 1
  · refine paired_map b fun c d ⟨h1, h2, h3⟩ => paired_map (rows_sim ls gm gn h1.1 h2.1 h3) fun z z' ⟨q1, q2, q3⟩ => ?_
    obtain ⟨r1, s1⟩ := cls_rp gm rm q1
    obtain ⟨r2, s2⟩ := cls_rp gn rn q2
    have s' : Sim M N (cls G z) (cls F z') := fun v hv => (s1 v hv).symm.trans ((q3 v hv).trans (s2 v (by rw [← ls]; exact hv)))
    rw [(both_mem ls gm gn rm rn r1 r2 s' b).2]
  · exact paired_map b fun c d ⟨_, _, h3⟩ => h3 [] fun z hz => absurd hz (by simp)
end
end Mz
namespace Mz
open PySem PySem.Spec PyProof.Rows L2
section
variable {M : Mach} {G : List Int}
theorem addC_ok {o : List Int} {c : Int} (n : o.Nodup) : (addC o c).Nodup ∧ ∀ x, x ∈ addC o c ↔ x ∈ o ∨ x = c := by
  unfold addC
  by_cases h : c ∈ o
  · rw [if_pos h]
    exact ⟨n, fun x => ⟨.inl, fun z => z.elim id fun e => by rw [e]; exact h⟩⟩
  · rw [if_neg h]
    refine ⟨List.nodup_append.mpr ⟨n, by simp, fun a ha b hb e => ?_⟩, fun x => by rw [List.mem_append, List.mem_singleton]⟩
    rw [List.mem_singleton.mp hb] at e
    rw [e] at ha
    exact h ha
theorem ordStep_snoc (row : List Int) (z : Int) (o : List Int) : ordStep G (row ++ [z]) o = addC (ordStep G row o) (cls G z) := by
  unfold ordStep
  rw [List.foldl_append]
  rfl
theorem ordStep_ok (g : Good M) (r : Rep (EqM M) M.rows.length G) : ∀ {row o : List Int}, (∀ z ∈ row, M.St z) → o.Nodup → (∀ c ∈ o, IsRp M G c) → (ordStep G row o).Nodup ∧ (∀ c ∈ ordStep G row o, IsRp M G c) ∧ (∀ c ∈ o, c ∈ ordStep G row o) ∧ ∀ z ∈ row, cls G z ∈ ordStep G row o
  | [], o, _, n, k => ⟨n, k, fun _ h => h, fun z hz => absurd hz (by simp)⟩
  | z :: row, o, hz, n, k => by
    obtain ⟨a1, a2⟩ := addC_ok (c := cls G z) n
    obtain ⟨b1, b2, b3, b4⟩ := ordStep_ok g r (row := row) (o := addC o (cls G z)) (fun y hy => hz y (List.mem_cons_of_mem _ hy)) a1 fun c hc => by
      rcases (a2 c).mp hc with e | e
      · exact k c e
      · rw [e]
        exact (cls_rp g r (hz z List.mem_cons_self)).1
    refine ⟨b1, b2, fun c hc => b3 c ((a2 c).mpr (.inl hc)), fun y hy => ?_⟩
    rcases List.mem_cons.mp hy with e | e
    · rw [e]
      exact b3 _ ((a2 _).mpr (.inr rfl))
    · exact b4 y e
theorem row_st (g : Good M) {c : Int} (h : M.St c) : ∀ z ∈ M.rows.getD c.toNat [], M.St z := by
  obtain ⟨w, e1, e2, e3⟩ := g.row h
  rw [e3]
  exact fun z hz => g.rb w e2 z hz
theorem ord_ok (g : Good M) (r : Rep (EqM M) M.rows.length G) : ∀ k, (ordAt M G k).Nodup ∧ ∀ c ∈ ordAt M G k, IsRp M G c
  | 0 => ⟨by simp [ordAt], fun c hc => by rw [List.mem_singleton.mp hc]; exact (cls_rp g r g.st0).1⟩
  | k + 1 => by
    obtain ⟨n, h⟩ := ord_ok g r k
    unfold ordAt
    by_cases c : k < (ordAt M G k).length
    · rw [if_pos c]
      have e : (ordAt M G k).getD k 0 = (ordAt M G k)[k] := by
        rw [List.getD_eq_getElem?_getD, List.getElem?_eq_getElem c]
        rfl
      have q := ordStep_ok g r (row := M.rows.getD ((ordAt M G k).getD k 0).toNat []) (row_st g (by rw [e]; exact (h _ (List.getElem_mem c)).1)) n h
      exact ⟨q.1, q.2.1⟩
    · rw [if_neg c]
      exact ⟨n, h⟩
theorem ord_len (g : Good M) (r : Rep (EqM M) M.rows.length G) (k : Nat) : (ordAt M G k).length ≤ M.rows.length := by
  obtain ⟨n, h⟩ := ord_ok g r k
  have q := nodup_few M.rows.length ((ordAt M G k).map Int.toNat) ?_ ?_
  · rw [List.length_map] at q
    exact q
  · refine List.Pairwise.map _ ?_ (List.Pairwise.and_mem.mp n)
    rintro a b ⟨ha, hb, ne⟩ e
    have := (h a ha).1.1
    have := (h b hb).1.1
    exact ne (by omega)
  · intro x hx
    obtain ⟨c, hc, rfl⟩ := List.mem_map.mp hx
    have := (h c hc).1.1
    have := (h c hc).1.2
    omega
theorem ord_stop {k : Nat} (h : (ordAt M G k).length ≤ k) : ∀ j, k ≤ j → ordAt M G j = ordAt M G k := by
  intro j hj
  induction j with
  | zero => rw [show k = 0 by omega]
  | succ j ih =>
    by_cases c : k = j + 1
    · rw [c]
    · have e := ih (by omega)
      show (if j < (ordAt M G j).length then _ else ordAt M G j) = _
      rw [if_neg (by rw [e]; omega)]
      exact e
/-- when the place is the length, the order is whole -/
theorem ord_whole (g : Good M) (r : Rep (EqM M) M.rows.length G) {k : Nat} (h : (ordAt M G k).length ≤ k) : ordAt M G k = ordAt M G M.rows.length := by
  by_cases c : k ≤ M.rows.length
  · exact (ord_stop h _ c).symm
  · exact ord_stop (ord_len g r _) _ (by omega)
end
end Mz
namespace Mz
theorem ordStep_len {G : List Int} : ∀ (row o : List Int), (ordStep G row o).length ≤ o.length + row.length
  | [], o => Nat.le_refl _
  | z :: row, o => by
    have h := ordStep_len (G := G) row (addC o (cls G z))
    have : (addC o (cls G z)).length ≤ o.length + 1 := by
      unfold addC
      split
      · omega
      · rw [List.length_append, List.length_singleton]
        exact Nat.le_refl _
    rw [List.length_cons]
    show (ordStep G row (addC o (cls G z))).length ≤ _
    omega
end Mz
namespace Mz
open PySem PySem.Spec PyProof.Rows L2
/-- a dict comprehension over a walk -/
theorem dc_it {J : It} {n : Nat} {Gd : Hp → Prop} {Y : Nat → Hp → V → Hp → Prop} (wk : Walk J n Gd Y) {g : TG} {tt : TT} {tk tv : TE} {vs : List Nat} {σ : L2.St} {H1 : Hp} {D : Addr} {Qd : Hp → Prop} (Pv : Nat → Hp → Prop) (h0 : Pv 0 (upd H1 D (.dK []))) (hG : ∀ i H, i ≤ n → Pv i H → Gd H)
    (turn : ∀ i x H H', i < n → Pv i H → Y i H x H' → g x (wipe σ vs) H' fun σ2 H2 => wipe σ2 vs = wipe σ vs ∧ tt σ2 H2 fun b H3 =>
      if b = true then tk σ2 H3 fun y H4 => tv σ2 H4 fun z H5 => ∃ kvs k, y = kV k ∧ H5 D = some (.dK kvs) ∧ kvs.length < sizeLine ∧ Pv (i + 1) (upd H5 D (.dK (putK kvs k z))) else Pv (i + 1) H3) (last : ∀ H, Pv n H → Qd H) :
    ∃ W : Nat → Nat → Hp → Prop, (∃ m, W 0 m (upd H1 D (.dK []))) ∧ ∀ i m H, W i m H →
      (J.stop i H ∧ Qd H) ∨ (J.go i H ∧ ∃ Nx : Hp → Prop, (∀ H', Nx H' → ∃ m', m' < m ∧ W (i + 1) m' H') ∧ ∀ x H', J.yld i H x H' → g x (wipe σ vs) H' fun σ2 H2 => wipe σ2 vs = wipe σ vs ∧ tt σ2 H2 fun b H3 =>
        if b = true then tk σ2 H3 fun y H4 => tv σ2 H4 fun z H5 => ∃ kvs k, y = kV k ∧ H5 D = some (.dK kvs) ∧ kvs.length < sizeLine ∧ Nx (upd H5 D (.dK (putK kvs k z))) else Nx H3) := by
  refine ⟨fun i m H => m + i = n ∧ Pv i H, ⟨n, rfl, h0⟩, ?_⟩
  rintro i m H ⟨e, p⟩
  have q := hG i H (by omega) p
  cases m with
  | zero =>
    obtain rfl : i = n := by omega
    exact .inl ⟨wk.stops H q, last H p⟩
  | succ m => exact .inr ⟨wk.goes i H (by omega) q, Pv (i + 1), fun H' p' => ⟨m, by omega, by omega, p'⟩, fun x H' y => turn i x H H' (by omega) p (wk.yields i H x H' (by omega) q y)⟩
end Mz

set_option Elab.async false
set_option linter.all false
set_option maxRecDepth 100000
set_option maxHeartbeats 4000000
namespace K25
open PySem PySem.Spec PyProof.Rows L2 Mz
def spMet (K : PySem.W.Frag) : Sp := fun vs H Q _ => ∃ (m mv ou sa : Addr) (rs : List Addr) (M : Mach) (G : List Int), vs = [.ref mv, .ref sa] ∧ MAt H m M mv ou rs ∧ Good M ∧ SqL K H sa (G.map V.int) ∧ Rep (EqM M) M.rows.length G ∧
  ∀ (H' : Hp) (p : Addr), Same H H' → H p = none → H' p = some (.lst ((ordAt M G M.rows.length).map V.int)) → Q (.ref p) H'
section
variable {P : Program} {w : World} {K : PySem.W.Frag} {mg : Str → Option Value} {base : Heap} {A : Ads}
theorem ok_met (T : Txt K mg A) : FnOk P w K mg base CX0 1 A.a_met_states A.d_met_states ["moves", "same"] (spMet K) := by
  refine T.F_met_states.ok sc_met_states (fun vs H Q E h => ?_) (fun cdv Ar outer s H vs Q E hr h => ?_)
  · obtain ⟨_, _, _, _, _, _, _, rfl, _⟩ := h
    rfl
  · obtain ⟨m, mv, ou, sa, rs, M, G, rfl, hM, g, hS, rG, fin⟩ := h
    refine ⟨_, (pss_cons (ps_set (i := 2) sc_met_states.nd rfl (Or.inl rfl) (pe_lst (pa_cons (pe_ix (r := rIx K) ix_seq (pv 1) pe_int (fun _ _ => rfl)) pa_nil)))
      (pss_cons (ps_set (i := 3) sc_met_states.nd rfl (Or.inl rfl) (pe_disp (pps_cons (pe_ix (r := rIx K) ix_seq (pv 1) pe_int (fun _ _ => rfl)) pe_bl pps_nil) rfl rfl (by simp) (by decide)))
      (pss_cons (ps_set (i := 4) sc_met_states.nd rfl (Or.inl rfl) pe_int)
      (pss_cons (ps_while PassesOwn.never (pt_cmpR op_lt (pv 4) (pe_callB call_len_seq (by rfl) T.n_len PySem.boot_len (pa_cons (pv 2) pa_nil)) (nomark _)) (pss_cons (ps_set (i := 5) sc_met_states.nd rfl (Or.inl rfl) (pe_ix (r := rIx K) ix_seq (pv 2) (pv 4) (fun _ _ => rfl)))
          (pss_cons (ps_aug (i := 4) sc_met_states.nd rfl (Or.inl rfl) pe_int ip_add)
          (pss_one (ps_for PassesOwn.never rfl (pi_tup (pe_ix (r := rIx K) ix_seq (pv 0) (pv 5) (fun _ _ => rfl))) (pg_name (i := 6) sc_met_states.nd rfl (Or.inl rfl))
            (pss_one (ps_if (pt_cmp (pc_dnotin (hu_of hr) (pe_ix (r := rIx K) ix_seq (pv 1) (pv 6) (fun _ _ => rfl)) (pv 3))) (pss_cons (ps_dput (hu_of hr) (pv 3) (pe_ix (r := rIx K) ix_seq (pv 1) (pv 6) (fun _ _ => rfl)) pe_bl rfl)
                  (pss_one (ps_expr (pe_bm PySem.F.plainAttrs_list PySem.F.slot_list_append PySem.F.type_list_append mt_append (pv 2) (pa_cons (pe_ix (r := rIx K) ix_seq (pv 1) (pv 6) (fun _ _ => rfl)) pa_nil))))) pss_nil)))))))
      (pss_one (ps_ret (pv 2))))))), ?_⟩
    have n30 := g.s30
    have n1 := g.s1
    have l30 : (rs.map V.ref).length = M.rows.length := by rw [List.length_map, hM.len]
    have getG : ∀ {z : Int}, M.St z → G[z.toNat]? = some (cls G z) := fun {z} hz => by
      unfold cls
      rw [List.getD_eq_getElem?_getD, List.getElem?_eq_getElem (by rw [rG.1]; have := hz.1; have := hz.2; omega)]
      rfl
    have gR : ∀ {H' : Hp} {z : Int} {Q : VK}, Same H H' → M.St z → Q (.int (cls G z)) H' → rIx K (.ref sa) (.int z) H' Q := fun {H' z Q} s hz q => .inl ⟨sa, _, _, _, rfl, rfl, s.seq hS, atI_get? hz.1 (getG hz), q⟩
    refine ⟨_, rfl, gR (Same.refl _) g.st0 ⟨(by show 1 ≤ sizeLine; decide), fun oa hoa => ?_⟩⟩
    have s1 := same_upd (o := .lst [.int (cls G 0)]) (Same.refl H) hoa
    intro ma hma
    have s2 := same_upd (o := .dK []) s1 hma
    have mo : ma ≠ oa := fun z => by
      rw [z, upd_same] at hma
      cases hma
    refine ⟨_, rfl, gR s2 g.st0 ?_⟩
    refine ⟨upd_same, [(.inl (cls G 0), .bl true)], rfl, by show 1 ≤ 15; decide, ?_⟩
    have s3 : Same H (upd (upd (upd H oa (.lst [.int (cls G 0)])) ma (.dK [])) ma (.dK [(.inl (cls G 0), .bl true)])) := same_set s2 (s1.free hma)
    have foa := hoa
    have fma := s1.free hma
    refine ⟨fun d σ H' => ∃ (k : Nat) (kvs : List (L2.Key × V)) (v5 v6 : Option V), d = 100 - k ∧ σ = [some (.ref mv), some (.ref sa), some (.ref oa), some (.ref ma), some (.int (k : Int)), v5, v6] ∧ Same H H' ∧ H' oa = some (.lst ((ordAt M G k).map V.int)) ∧ H' ma = some (.dK kvs) ∧ (∀ c : Int, (valV kvs (.inl c)).isSome = true ↔ c ∈ ordAt M G k) ∧ kvs.length ≤ 1 + 4 * k ∧ k ≤ 30,
      ⟨_, 0, [(.inl (cls G 0), .bl true)], none, none, rfl, rfl, s3, by rw [upd_ne mo.symm, upd_ne mo.symm, upd_same]; rfl, upd_same, fun c => ?_, by show 1 ≤ 1; decide, by decide⟩, ?_⟩
    · show _ ↔ c ∈ [cls G 0]
      rw [List.mem_singleton]
      by_cases q : c = cls G 0
      · rw [valV_pos (p := (Sum.inl (cls G 0), V.bl true)) (by rw [q])]
        exact ⟨fun _ => q, fun _ => rfl⟩
      · rw [valV_neg (p := (Sum.inl (cls G 0), V.bl true)) fun z => q (by injection z with z; exact z.symm)]
        exact ⟨fun z => (by cases z), fun z => absurd z q⟩
    rintro d σ H1 ⟨k, kvs, v5, v6, rfl, rfl, z1, e1, e2, e3, e4, e5⟩
    have len := ord_len g rG k
    refine ⟨_, rfl, _, rfl, oa, _, rfl, .inl (SqL.of e1), ?_⟩
    rw [List.length_map]
    refine ⟨_, _, rfl, rfl, _, rfl, ?_⟩
    refine ite2 (fun c => ?_) (fun c => ?_)
    · have c : k < (ordAt M G k).length := by simpa using c
      have eo := List.getElem?_eq_getElem c
      have go : (ordAt M G k).getD k 0 = (ordAt M G k)[k] := by
        rw [List.getD_eq_getElem?_getD, eo]
        rfl
      obtain ⟨nod, rps⟩ := ord_ok g rG k
      have rp := rps _ (List.getElem_mem c)
      generalize hst : (ordAt M G k)[k] = st at eo go rp
      obtain ⟨w1, g1, g2, g3⟩ := g.row rp.1
      have hM1 := hM.same z1
      obtain ⟨r, f1, f2⟩ := hM1.rowAt rp.1.1 g1
      have wl := g.rl w1 g2
      have l4 := g.l4
      have nxt : ordAt M G (k + 1) = ordStep G w1 (ordAt M G k) := by
        show (if k < (ordAt M G k).length then ordStep G (M.rows.getD ((ordAt M G k).getD k 0).toNat []) (ordAt M G k) else ordAt M G k) = _
        rw [if_pos c, go, g3]
      refine ⟨fun σ' H' => ∃ (kvs : List (L2.Key × V)) (v5 v6 : Option V), σ' = [some (.ref mv), some (.ref sa), some (.ref oa), some (.ref ma), some (.int ((k : Int) + 1)), v5, v6] ∧ Same H H' ∧ H' oa = some (.lst ((ordAt M G (k + 1)).map V.int)) ∧ H' ma = some (.dK kvs) ∧ (∀ c : Int, (valV kvs (.inl c)).isSome = true ↔ c ∈ ordAt M G (k + 1)) ∧ kvs.length ≤ 1 + 4 * (k + 1),
        fun σ' H' ⟨kvs', v5', v6', q1, q2, q3, q4, q5, q6⟩ => ⟨100 - (k + 1), by omega, k + 1, kvs', v5', v6', rfl, q1, q2, q3, q4, q5, q6, by omega⟩, ?_⟩
      refine ⟨_, rfl, _, rfl, .inl ⟨oa, _, _, _, rfl, rfl, SqL.of e1, atI_get? (by omega) (by rw [show ((k : Int)).toNat = k by omega]; exact eo), ?_⟩⟩
      refine ⟨_, rfl, _, _, rfl, rfl, ?_⟩
      refine ⟨_, rfl, _, rfl, .inr (.inl ⟨mv, _, _, _, rfl, rfl, SqT.of hM1.mv, f1, ?_⟩)⟩
      refine ⟨r, rfl, ⟨_, SqT.of f2⟩, for_tup (K := K) (a := r) (xs := w1.map V.int) (fun i σ H' => ∃ (kvs : List (L2.Key × V)) (v6 : Option V), σ = [some (.ref mv), some (.ref sa), some (.ref oa), some (.ref ma), some (.int ((k : Int) + 1)), some (.int st), v6] ∧ Same H H' ∧ H' r = some (.tup (w1.map V.int)) ∧ H' oa = some (.lst ((ordStep G (w1.take i) (ordAt M G k)).map V.int)) ∧ H' ma = some (.dK kvs) ∧ (∀ c : Int, (valV kvs (.inl c)).isSome = true ↔ c ∈ ordStep G (w1.take i) (ordAt M G k)) ∧ kvs.length ≤ 1 + 4 * k + i)
        ⟨kvs, v6, rfl, z1, f2, e1, e2, e3, e4⟩ (fun i σ H' _ ⟨_, _, _, _, z, _⟩ => SqT.of z) ?_ ?_⟩
      · rintro i y σ H2 hi ⟨kvs, v6, rfl, z2, zr, a1, a2, a3, a4⟩
        obtain ⟨z, hz, rfl⟩ := ofV hi
        have zst : M.St z := g.rb w1 g2 z (List.mem_of_getElem? hz)
        have il : i < w1.length := (List.getElem?_eq_some_iff.mp hz).1
        have sl := ordStep_len (G := G) (w1.take i) (ordAt M G k)
        rw [List.length_take] at sl
        refine ⟨_, rfl, _, rfl, gR z2 zst ⟨_, rfl, ma, _, rfl, DGet.k (k := .inl (cls G z)) a2, ?_⟩⟩
        have step : ordStep G (w1.take (i + 1)) (ordAt M G k) = addC (ordStep G (w1.take i) (ordAt M G k)) (cls G z) := by
          rw [take_more hz, ordStep_snoc]
        cases ev : (valV kvs (.inl (cls G z))).isSome with
        | true =>
          have inn := (a3 _).mp ev
          refine ⟨_, rfl, kvs, _, rfl, z2, zr, ?_, a2, fun c => ?_, by omega⟩
          · rw [step]
            unfold addC
            rw [if_pos inn]
            exact a1
          · rw [step]
            unfold addC
            rw [if_pos inn]
            exact a3 c
        | false =>
          have nin : cls G z ∉ ordStep G (w1.take i) (ordAt M G k) := fun q => by
            rw [(a3 _).mpr q] at ev
            cases ev
          have om : oa ≠ ma := mo.symm
          refine ⟨_, rfl, ?_⟩
          refine ⟨_, rfl, _, rfl, _, rfl, gR z2 zst ⟨ma, _, rfl, DPut.k (k := .inl (cls G z)) (v := .bl true) a2 (Nat.lt_of_le_of_lt (by omega : kvs.length ≤ 1000) (by decide)), ?_⟩⟩
          have z3 := same_set (o := .dK (putK kvs (.inl (cls G z)) (.bl true))) z2 fma
          have b1 : (upd H2 ma (.dK (putK kvs (.inl (cls G z)) (.bl true)))) oa = some (.lst ((ordStep G (w1.take i) (ordAt M G k)).map V.int)) := by
            rw [upd_ne om]
            exact a1
          refine ⟨_, rfl, .inl ⟨rfl, _, SqL.of b1⟩, _, rfl, _, rfl, gR z3 zst ⟨oa, _, _, rfl, rfl, b1, ?_, ?_⟩⟩
          · rw [List.length_map]
            exact Nat.lt_of_le_of_lt (by omega : (ordStep G (w1.take i) (ordAt M G k)).length ≤ 1000) (by decide)
          have rne : ∀ {b : Addr} {o : HO}, H2 b = some o → (∀ xs, o ≠ .lst xs) → (∀ xs, o ≠ .dK xs) → b ≠ oa ∧ b ≠ ma := fun {b o} q n1 n2 => ⟨fun zz => by rw [zz, a1] at q; exact n1 _ (Option.some.inj q).symm, fun zz => by rw [zz, a2] at q; exact n2 _ (Option.some.inj q).symm⟩
          obtain ⟨r1, r2⟩ := rne zr (fun _ q => by cases q) (fun _ q => by cases q)
          refine ⟨_, _, rfl, same_set z3 foa, by rw [upd_ne r1, upd_ne r2]; exact zr, ?_, by rw [upd_ne om.symm, upd_same], fun c => ?_, by have := length_putK kvs (.inl (cls G z)) (V.bl true); omega⟩
          · rw [upd_same, step]
            unfold addC
            rw [if_neg nin, List.map_append]
            rfl
          · rw [step]
            unfold addC
            rw [if_neg nin, List.mem_append, List.mem_singleton, valV_put]
            by_cases q : c = cls G z
            · subst q
              rw [if_pos rfl]
              exact ⟨fun _ => .inr rfl, fun _ => rfl⟩
            · rw [if_neg fun zz => q (by injection zz), a3]
              exact ⟨.inl, fun zz => zz.resolve_right q⟩
      · rintro σ H2 ⟨kvs, v6, rfl, z2, zr, a1, a2, a3, a4⟩
        rw [List.length_map, List.take_length] at a1 a3
        rw [List.length_map] at a4
        refine ⟨kvs, _, _, rfl, z2, ?_, a2, ?_, by omega⟩
        · rw [nxt]
          exact a1
        · rw [nxt]
          exact a3
    · have c : (ordAt M G k).length ≤ k := by simp at c; omega
      refine ⟨_, rfl, fin H1 oa z1 foa ?_⟩
      rw [← ord_whole g rG c]
      exact e1
end
end K25

set_option Elab.async false
set_option linter.all false
namespace Mz
open PySem PySem.Spec PyProof.Rows L2
section
variable {M N : Mach} {G F : List Int}
theorem addC_pre (o : List Int) (c : Int) : o <+: addC o c := by
  unfold addC
  split
  · exact List.prefix_refl _
  · exact List.prefix_append _ _
theorem ordStep_pre : ∀ (row o : List Int), o <+: ordStep G row o
  | [], o => List.prefix_refl _
  | z :: row, o => (addC_pre o (cls G z)).trans (ordStep_pre row (addC o (cls G z)))
theorem ord_pre1 (k : Nat) : ordAt M G k <+: ordAt M G (k + 1) := by
  show _ <+: (if k < (ordAt M G k).length then ordStep G (M.rows.getD ((ordAt M G k).getD k 0).toNat []) (ordAt M G k) else ordAt M G k)
  split
  · exact ordStep_pre _ _
  · exact List.prefix_refl _
theorem ord_pre (j : Nat) : ∀ d, ordAt M G j <+: ordAt M G (j + d)
  | 0 => List.prefix_refl _
  | d + 1 => (ord_pre j d).trans (ord_pre1 (j + d))
/-- what a class in the order leads to is in the order -/
theorem ord_closed (g : Good M) (r : Rep (EqM M) M.rows.length G) {c z : Int} (h : c ∈ ordAt M G M.rows.length) (hz : z ∈ M.rows.getD c.toNat []) : cls G z ∈ ordAt M G M.rows.length := by
  obtain ⟨i, hi, ei⟩ := List.mem_iff_getElem.mp h
  have ln := ord_len g r M.rows.length
  have li : i < (ordAt M G i).length := by
    refine Nat.lt_of_not_le fun q => ?_
    rw [ord_stop q M.rows.length (by omega)] at hi
    omega
  have pre := ord_pre (M := M) (G := G) i (M.rows.length - i)
  rw [show i + (M.rows.length - i) = M.rows.length by omega] at pre
  have pre1 := ord_pre (M := M) (G := G) (i + 1) (M.rows.length - (i + 1))
  rw [show (i + 1) + (M.rows.length - (i + 1)) = M.rows.length by omega] at pre1
  have eq : (ordAt M G i).getD i 0 = c := by
    obtain ⟨t, ht⟩ := pre
    rw [List.getD_eq_getElem?_getD, List.getElem?_eq_getElem li, ← ei]
    show (ordAt M G i)[i] = _
    have : (ordAt M G M.rows.length)[i]? = (ordAt M G i)[i]? := by rw [← ht, List.getElem?_append_left li]
    rw [List.getElem?_eq_getElem li, List.getElem?_eq_getElem hi] at this
    exact (Option.some.inj this).symm
  have nx : ordAt M G (i + 1) = ordStep G (M.rows.getD c.toNat []) (ordAt M G i) := by
    show (if i < (ordAt M G i).length then ordStep G (M.rows.getD ((ordAt M G i).getD i 0).toNat []) (ordAt M G i) else ordAt M G i) = _
    rw [if_pos li, eq]
  obtain ⟨nod, rps⟩ := ord_ok g r i
  have cst : M.St c := ((ord_ok g r M.rows.length).2 c h).1
  have := (ordStep_ok g r (row_st g cst) nod rps).2.2.2 z hz
  rw [← nx] at this
  exact pre1.subset this
end
end Mz

set_option Elab.async false
set_option linter.all false
namespace Mz
open PySem PySem.Spec PyProof.Rows L2
section
variable {M N : Mach} {G F : List Int}
/-- the place of a class in an order -/
def plc (o : List Int) (c : Int) : Nat := o.findIdx fun y => decide (y = c)
theorem plc_at {o : List Int} {c : Int} (h : c ∈ o) : plc o c < o.length ∧ o[plc o c]? = some c := by
  have l : o.findIdx (fun y => decide (y = c)) < o.length := List.findIdx_lt_length_of_exists ⟨c, h, decide_eq_true rfl⟩
  have e : o[o.findIdx (fun y => decide (y = c))] = c := of_decide_eq_true (List.findIdx_getElem (w := l))
  exact ⟨l, by show o[o.findIdx _]? = _; rw [List.getElem?_eq_getElem l, e]⟩
theorem leastBy_row {o : List Int} {i : Nat} {c : Int} (h : o[i]? = some c) : (leastBy M G o).rows[i]? = some ((M.rows.getD c.toNat []).map fun z => ((plc o (cls G z) : Nat) : Int)) := by
  show (o.map _)[i]? = _
  rw [List.getElem?_map, h]
  rfl
theorem leastBy_out {o : List Int} {i : Nat} {c : Int} (h : o[i]? = some c) : (leastBy M G o).out (i : Int) = M.out c := by
  show (o.map fun c => M.out c).getD ((i : Int)).toNat 0 = _
  rw [show ((i : Int)).toNat = i by omega, List.getD_eq_getElem?_getD, List.getElem?_map, h]
  rfl
theorem leastBy_len {o : List Int} : (leastBy M G o).rows.length = o.length := List.length_map ..
theorem leastBy_good (g : Good M) (r : Rep (EqM M) M.rows.length G) : Good (leastBy M G (ordAt M G M.rows.length)) := by
  have ln := ord_len g r M.rows.length
  have rps := (ord_ok g r M.rows.length).2
  refine ⟨g.l1, g.l4, g.o1, g.o6, ?_, ?_, ?_, ?_, ?_, ?_⟩
  · rw [leastBy_len]
    have p := ord_pre (M := M) (G := G) 0 M.rows.length
    have q := p.length_le
    rw [Nat.zero_add] at q
    exact q
  · rw [leastBy_len]
    have := g.s30
    omega
  · show (List.map _ _).length = (List.map _ _).length
    rw [List.length_map, List.length_map]
  · intro w hw
    obtain ⟨c, hc, rfl⟩ := List.mem_map.mp hw
    obtain ⟨w, e1, e2, e3⟩ := g.row (rps c hc).1
    rw [List.length_map, e3]
    exact g.rl w e2
  · intro w hw z hz
    obtain ⟨c, hc, rfl⟩ := List.mem_map.mp hw
    obtain ⟨y, hy, rfl⟩ := List.mem_map.mp hz
    have := (plc_at (ord_closed g r hc hy)).1
    rw [leastBy_len]
    show (0 : Int) ≤ (plc _ _ : Nat) ∧ ((plc _ _ : Nat) : Int) < _
    omega
  · intro z hz
    obtain ⟨c, hc, rfl⟩ := List.mem_map.mp hz
    exact (g.outp (rps c hc).1).2
theorem leastBy_walk (g : Good M) (r : Rep (EqM M) M.rows.length G) : ∀ (v : List Int) (x c : Int) (i : Nat), Lt M.ls v → M.St x → cls G x = c → (ordAt M G M.rows.length)[i]? = some c → M.out (M.run x v) = (leastBy M G (ordAt M G M.rows.length)).out ((leastBy M G (ordAt M G M.rows.length)).run i v)
  | [], x, c, i, _, hx, e, hi => by
    show M.out x = (leastBy M G (ordAt M G M.rows.length)).out i
    rw [leastBy_out hi, ← e]
    exact (cls_rp g r hx).2 [] (fun _ h => by cases h)
  | a :: v, x, c, i, hv, hx, e, hi => by
    obtain ⟨a0, a1⟩ := hv a List.mem_cons_self
    have hv' : Lt M.ls v := fun z hz => hv z (List.mem_cons_of_mem _ hz)
    have mc : c ∈ ordAt M G M.rows.length := List.mem_of_getElem? hi
    obtain ⟨rp, sm⟩ := cls_rp g r hx
    rw [e] at rp sm
    obtain ⟨sx, -⟩ := g.step hx a0 a1
    obtain ⟨sc, w, w1, w2⟩ := g.step rp.1 a0 a1
    have wg : M.rows.getD c.toNat [] = w := by
      rw [List.getD_eq_getElem?_getD, w1]
      rfl
    have eq : cls G (M.next x a) = cls G (M.next c a) := by
      obtain ⟨p1, p2⟩ := cls_rp g r sx
      obtain ⟨p3, p4⟩ := cls_rp g r sc
      refine rp_uniq g r p1 p3 fun u hu => ?_
      rw [← p2 u hu, ← p4 u hu]
      exact sm.step g rfl a0 a1 u hu
    have inn : cls G (M.next c a) ∈ ordAt M G M.rows.length := ord_closed g r mc (by rw [wg]; exact List.mem_of_getElem? w2)
    have nx : (leastBy M G (ordAt M G M.rows.length)).next i a = ((plc (ordAt M G M.rows.length) (cls G (M.next c a)) : Nat) : Int) := by
      show ((leastBy M G (ordAt M G M.rows.length)).rows.getD ((i : Int)).toNat []).getD a.toNat 0 = _
      have rg : (leastBy M G (ordAt M G M.rows.length)).rows.getD i [] = w.map fun z => ((plc (ordAt M G M.rows.length) (cls G z) : Nat) : Int) := by
        rw [List.getD_eq_getElem?_getD, leastBy_row hi, wg]
        rfl
      rw [show ((i : Int)).toNat = i by omega, rg, List.getD_eq_getElem?_getD, List.getElem?_map, w2]
      rfl
    show M.out (M.run (M.next x a) v) = (leastBy M G (ordAt M G M.rows.length)).out ((leastBy M G (ordAt M G M.rows.length)).run ((leastBy M G (ordAt M G M.rows.length)).next i a) v)
    rw [nx]
    exact leastBy_walk g r v (M.next x a) _ _ hv' sx eq (plc_at inn).2
theorem leastBy_sim (g : Good M) (r : Rep (EqM M) M.rows.length G) : Sim M (leastBy M G (ordAt M G M.rows.length)) 0 0 := fun v hv => by
  refine leastBy_walk g r v 0 (cls G 0) 0 hv g.st0 rfl ?_
  obtain ⟨t, ht⟩ := ord_pre (M := M) (G := G) 0 M.rows.length
  rw [Nat.zero_add] at ht
  rw [← ht]
  rfl
end
end Mz

set_option Elab.async false
set_option linter.all false
set_option maxRecDepth 100000
set_option maxHeartbeats 4000000
namespace K25
open PySem PySem.Spec PyProof.Rows L2 Mz
def spLeast : Sp := fun vs H Q _ => ∃ (m : Addr) (M : Mach), vs = [.ref m] ∧ MA H m M ∧ Good M ∧ ∀ (H' : Hp) (p : Addr) (G : List Int), Same H H' → H p = none → Rep (EqM M) M.rows.length G → MA H' p (leastBy M G (ordAt M G M.rows.length)) → Q (.ref p) H'
section
variable {P : Program} {w : World} {K : PySem.W.Frag} {mg : Str → Option Value} {base : Heap} {A : Ads}
theorem ok_least (T : Txt K mg A) : FnOk P w K mg base CX0 3 A.a_least A.d_least ["machine"] spLeast := by
  have G_classes : FnOk P w K mg base CX0 2 A.a_classes A.d_classes ["machine"] spClasses := ok_classes T
  have G_met_states : FnOk P w K mg base CX0 1 A.a_met_states A.d_met_states ["moves", "same"] (spMet K) := ok_met T
  refine T.F_least.ok sc_least (fun vs H Q E h => ?_) (fun cdv Ar outer s H vs Q E hr h => ?_)
  · obtain ⟨_, _, rfl, _⟩ := h
    rfl
  · obtain ⟨m, M, rfl, hMA, g, fin⟩ := h
    have hr_classes : Room 2 _ := hr
    have hr_met_states : Room 1 _ := hr.mono (by decide)
    obtain ⟨mv, ou, rs, hM⟩ := id hMA
    refine ⟨_, (pss_cons (ps_asg (pv 0) (pg_tup rfl (pgs_cons (pg_name (i := 1) sc_least.nd rfl (Or.inl rfl)) (pgs_cons (pg_name (i := 2) sc_least.nd rfl (Or.inl rfl)) (pgs_cons (pg_name (i := 3) sc_least.nd rfl (Or.inr rfl)) (pgs_cons (pg_name (i := 4) sc_least.nd rfl (Or.inr rfl)) pgs_nil))))))
      (pss_cons (ps_set (i := 5) sc_least.nd rfl (Or.inr rfl) (pe_call G_classes hr_classes (by rfl) T.g_classes T.F_classes.kp T.b_classes .nil pass0 (pa_cons (pv 0) pa_nil)))
      (pss_cons (ps_set (i := 6) sc_least.nd rfl (Or.inl rfl) (pe_call G_met_states hr_met_states (by rfl) T.g_met_states T.F_met_states.kp T.b_met_states .nil pass0 (pa_cons (pv 3) (pa_cons (pv 5) pa_nil))))
      (pss_cons (ps_set (i := 7) sc_least.nd rfl (Or.inr rfl) (pe_dc (own := [("number", 9), ("state", 10)]) (g := (gTup K 2 (gCons (gName 9) (gCons (gName 10) gNil)))) (tt := tYes) rfl sc_least.nd (pi_enumT (by rfl) T.n_enumerate (pa_cons (pv 6) pa_nil)) (blkOk_by (N := ["machine", "letters", "outs", "moves", "outputs", "same", "order", "numbers", "rows", "number", "state", "after"]) (sc := defScope s_least) (by decide +kernel)) (fun _ _ _ _ _ => (pg_tup rfl (pgs_cons (pg_name (i := 9) sc_least.nd rfl (Or.inl rfl)) (pgs_cons (pg_name (i := 10) sc_least.nd rfl (Or.inl rfl)) pgs_nil)))) (fun _ _ _ _ _ => pts_nil) (fun _ _ _ _ _ => (pv 10)) (fun _ _ _ _ _ => (pv 9))))
      (pss_cons (ps_setLc (i := 8) (own := [("state", 10)]) (g := (gName 10)) (tt := tYes) rfl sc_least.nd rfl rfl (sw_true rfl rfl rfl (by decide +kernel)) (pi_list (pv 6)) (blkOk_by (N := ["machine", "letters", "outs", "moves", "outputs", "same", "order", "numbers", "rows", "number", "state", "after"]) (sc := defScope s_least) (by decide +kernel)) (fun _ _ _ _ _ => (pg_name (i := 10) sc_least.nd rfl (Or.inl rfl))) (fun _ _ _ _ _ => pts_nil) (fun _ _ _ _ _ => (pe_callTy (r := rTof K) (T := "tuple") call_tof (by rfl) T.n_tuple (by decide +kernel) (pa_cons (pe_lc (own := [("after", 11)]) (g := (gName 11)) (tt := tYes) (wi := iTup K (tOp (rIx K) (tVar 3) (tVar 10))) rfl sc_least.nd (pi_tup (pe_ix (r := rIx K) ix_seq (pv 3) (pv 10) (fun _ _ => rfl))) (blkOk_at (blkOk_by (N := ["machine", "letters", "outs", "moves", "outputs", "same", "order", "numbers", "rows", "number", "state", "after"]) (sc := { kind := .function, names := [(".0", .local), ("state", .local), ("tuple", .globalImplicit), ("moves", .cell), ("numbers", .cell), ("same", .cell)], isGenerator := false, isCoroutine := false }) (by decide +kernel)) (by rfl) (by rfl)) (fun _ _ _ _ _ => (pg_name (i := 11) sc_least.nd rfl (Or.inl rfl))) (fun _ _ _ _ _ => pts_nil) (fun _ _ _ _ _ => (pe_dget (hu_of hr) (pv 7) (pe_ix (r := rIx K) ix_seq (pv 5) (pv 11) (fun _ _ => rfl)) (fun _ _ => rfl)))) pa_nil))))
      (pss_one (ps_ret (pe_tup (pa_cons (pv 1) (pa_cons (pv 2) (pa_cons (pe_callTy call_tuple_of (by rfl) T.n_tuple (by decide +kernel) (pa_cons (pv 8) pa_nil)) (pa_cons (pe_callTy call_tuple_of (by rfl) T.n_tuple (by decide +kernel) (pa_cons (pe_lc (own := [("state", 10)]) (g := (gName 10)) (tt := tYes) rfl sc_least.nd (pi_list (pv 6)) (blkOk_by (N := ["machine", "letters", "outs", "moves", "outputs", "same", "order", "numbers", "rows", "number", "state", "after"]) (sc := defScope s_least) (by decide +kernel)) (fun _ _ _ _ _ => (pg_name (i := 10) sc_least.nd rfl (Or.inl rfl))) (fun _ _ _ _ _ => pts_nil) (fun _ _ _ _ _ => (pe_ix (r := rIx K) ix_seq (pv 4) (pv 10) (fun _ _ => rfl)))) pa_nil)) pa_nil)))))))))))), ?_⟩
    refine ⟨_, rfl, m, _, rfl, SqT.of hM.top, rfl, _, _, rfl, _, _, rfl, _, _, rfl, _, _, rfl, rfl, ?_⟩
    refine ⟨_, rfl, m, M, rfl, hMA, g, fun H1 sa G s1 fs es rG => ?_⟩
    refine ⟨_, rfl, _, rfl, m, mv, ou, sa, rs, M, G, rfl, hM.same s1, g, SqL.of es, rG, fun H2 oa s2 fo eo => ?_⟩
    have s12 := s1.trans s2
    have ITs : ∀ {X Y : Hp} {b : Addr} {u : List Int}, Same X Y → IT X b u → IT Y b u := fun s h => s _ _ h
    have hM2 := hM.same s12
    have n30 := g.s30
    have ln := ord_len g rG M.rows.length
    obtain ⟨nod, rps⟩ := ord_ok g rG M.rows.length
    have clo : ∀ {c z : Int}, c ∈ ordAt M G M.rows.length → z ∈ M.rows.getD c.toNat [] → cls G z ∈ ordAt M G M.rows.length := fun h hz => ord_closed g rG h hz
    have mkL : leastBy M G (ordAt M G M.rows.length) = ⟨M.ls, M.os, (ordAt M G M.rows.length).map fun c => (M.rows.getD c.toNat []).map fun z => ((plc (ordAt M G M.rows.length) (cls G z) : Nat) : Int), (ordAt M G M.rows.length).map fun c => M.out c⟩ := rfl
    have fin' := fun H' p a b => fin H' p G a b rG
    rw [mkL] at fin'
    clear fin mkL
    generalize hO : ordAt M G M.rows.length = O at eo ln nod rps clo fin'
    refine ⟨_, rfl, oa, rfl, .inl ⟨⟨_, SqL.of eo⟩, fun D hD => ?_⟩⟩
    have oD : oa ≠ D := fun q => by
      rw [q, hD] at eo
      cases eo
    refine dc_it (walk_enum (xs := O.map V.int)) (fun i H' => ∃ kvs : List (L2.Key × V), Same H2 H' ∧ H' D = some (.dK kvs) ∧ kvs.length ≤ i ∧ ∀ c : Int, valV kvs (.inl c) = if c ∈ O.take i then some (.int ((plc O c : Nat) : Int)) else none)
      ⟨[], same_upd (Same.refl _) hD, upd_same, Nat.le_refl _, fun c => rfl⟩ (fun i H' _ ⟨_, z, _⟩ => SqL.of (z _ _ eo)) ?_ ?_
    · rintro i y H3 H3' hi ⟨kvs, z, e1, e2, e3⟩ ⟨T, x, v, rfl, hT, rfl, h1, h2⟩
      rw [List.length_map] at hi
      obtain ⟨c, hc, rfl⟩ := ofV h2
      cases h1
      have zT := same_upd (o := .tup [.int (i : Int), .int c]) z hT
      have TD : T ≠ D := fun q => by
        rw [q, e1] at hT
        cases hT
      have e1' : (upd H3 T (.tup [.int (i : Int), .int c])) D = some (.dK kvs) := by
        rw [upd_ne TD.symm]
        exact e1
      refine ⟨T, _, rfl, SqT.of upd_same, rfl, _, _, rfl, _, _, rfl, rfl, ?_⟩
      refine ⟨rfl, ?_⟩
      refine ⟨_, rfl, _, rfl, kvs, .inl c, rfl, e1', Nat.lt_of_le_of_lt (by omega : kvs.length ≤ 1000) (by decide), ?_⟩
      have ei : plc O c = i := by
        obtain ⟨p1, p2⟩ := plc_at (List.mem_of_getElem? hc)
        exact (List.getElem?_inj p1 nod).mp (p2.trans hc.symm)
      refine ⟨_, same_set zT hD, upd_same, by have := length_putK kvs (.inl c) (V.int (i : Int)); omega, fun m => ?_⟩
      rw [valV_put, take_more hc]
      by_cases q : m = c
      · subst q
        rw [if_pos rfl, if_pos (by simp), ei]
      · rw [if_neg fun z => q (by injection z), e3]
        by_cases q2 : m ∈ O.take i
        · rw [if_pos q2, if_pos (List.mem_append.mpr (.inl q2))]
        · rw [if_neg q2, if_neg fun z => ?_]
          rcases List.mem_append.mp z with z | z
          · exact q2 z
          · exact q (List.mem_singleton.mp z)
    rintro H3 ⟨kvs, z3, e1, e2, e3⟩
    rw [List.length_map, List.take_length] at e3
    clear e2
    have eo3 := z3 _ _ eo
    have z03 := s12.trans z3
    have hM3 := hM.same z03
    have es3 := (s2.trans z3) _ _ es
    refine ⟨_, rfl, oa, rfl, ⟨_, SqL.of eo3⟩, fun R hR => ?_⟩
    refine lc_it (walk_list (xs := O.map V.int)) (fun i H' => ∃ as : List Addr, H' R = some (.lst (as.map V.ref)) ∧ as.length = i ∧ Same H3 H' ∧ Paired (fun b q => IT H' b q) as ((O.take i).map fun c => (M.rows.getD c.toNat []).map fun z => ((plc O (cls G z) : Nat) : Int)))
      ⟨[], upd_same, rfl, same_upd (Same.refl _) hR, .nil⟩ (fun i H' _ ⟨_, _, _, z, _⟩ => SqL.of (z _ _ eo3)) ?_ ?_
    · rintro i y H4x H4 hi ⟨as, a1, a2, z, kk⟩ ⟨rfl, h2⟩
      rw [List.length_map] at hi
      obtain ⟨c, hc, rfl⟩ := ofV h2
      refine ⟨rfl, ?_⟩
      have mc := List.mem_of_getElem? hc
      have rp := rps _ mc
      obtain ⟨w1, g1, g2, g3⟩ := g.row rp.1
      obtain ⟨r, f1, f2⟩ := (hM3.same z).rowAt rp.1.1 g1
      have hM4 := hM3.same z
      have es4 := z _ _ es3
      have e14 := z _ _ e1
      refine ⟨_, rfl, _, rfl, .inr (.inl ⟨mv, _, _, _, rfl, rfl, SqT.of hM4.mv, f1, ?_⟩)⟩
      refine ⟨r, rfl, ⟨_, SqT.of f2⟩, fun D2 hD2 => ?_⟩
      have sD2 := fun o => same_upd (o := o) (Same.refl H4) hD2
      refine lc_tup (K := K) (a := r) (xs := w1.map V.int) (fun j H' => H' = upd H4 D2 (.lst (((w1.take j).map fun z => ((plc O (cls G z) : Nat) : Int)).map V.int))) rfl (fun j H' _ e => by rw [e]; exact SqT.of (sD2 _ _ _ f2)) ?_ ?_
      · rintro j y H5 hj rfl
        obtain ⟨z1, hz1, rfl⟩ := ofV hj
        have zb := g.rb _ g2 z1 (List.mem_of_getElem? hz1)
        have inn := clo mc (z := z1) (by rw [g3]; exact List.mem_of_getElem? hz1)
        refine ⟨rfl, ?_⟩
        have getG : G[z1.toNat]? = some (cls G z1) := by
          unfold cls
          rw [List.getD_eq_getElem?_getD, List.getElem?_eq_getElem (by rw [rG.1]; omega)]
          rfl
        have dg := DGet.k (k := .inl (cls G z1)) (sD2 (.lst (((w1.take j).map fun z => ((plc O (cls G z) : Nat) : Int)).map V.int)) _ _ e14)
        rw [e3, if_pos inn] at dg
        refine ⟨_, rfl, _, rfl, _, rfl, .inl ⟨sa, _, _, _, rfl, rfl, SqL.of (sD2 _ _ _ es4), atI_get? zb.1 getG, D, _, rfl, dg, ?_⟩⟩
        refine ⟨_, upd_same, ?_, ?_⟩
        · rw [List.length_map, List.length_map, List.length_take]
          have := g.rl _ g2
          have := g.l4
          exact Nat.lt_of_le_of_lt (by omega : min j w1.length ≤ 1000) (by decide)
        · rw [upd_upd, take_more hz1, List.map_append, List.map_append]
          rfl
      · rintro H5 rfl
        rw [List.length_map, List.take_length]
        refine ⟨D2, _, rfl, .inl ⟨SqL.of upd_same, fun b hb => ?_⟩⟩
        have s5 := (sD2 (.lst ((w1.map fun z => ((plc O (cls G z) : Nat) : Int)).map V.int))).trans (same_upd (o := .tup ((w1.map fun z => ((plc O (cls G z) : Nat) : Int)).map V.int)) (Same.refl _) hb)
        have eR := s5 _ _ a1
        have kb : upd (upd H4 D2 (.lst ((w1.map fun z => ((plc O (cls G z) : Nat) : Int)).map V.int))) b (.tup ((w1.map fun z => ((plc O (cls G z) : Nat) : Int)).map V.int)) b = some (.tup ((w1.map fun z => ((plc O (cls G z) : Nat) : Int)).map V.int)) := upd_same
        refine ⟨_, eR, ?_, as ++ [b], ?_, by rw [List.length_append, a2]; rfl, same_set (z.trans s5) hR, ?_⟩
        · rw [List.length_map]
          exact Nat.lt_of_le_of_lt (by omega : as.length ≤ 1000) (by decide)
        · rw [upd_same, List.map_append]
          rfl
        · have kk5 := Paired.mapP kk fun _ _ k => ITs s5 k
          generalize upd (upd H4 D2 (.lst ((w1.map fun z => ((plc O (cls G z) : Nat) : Int)).map V.int))) b (.tup ((w1.map fun z => ((plc O (cls G z) : Nat) : Int)).map V.int)) = H6 at eR kb kk5
          have keep : ∀ {d : Addr} {q : List Int}, IT H6 d q → IT (upd H6 R (.lst (as.map V.ref ++ [.ref b]))) d q := fun {d q} h => by
            unfold IT at h ⊢
            rw [upd_ne fun zz => by rw [zz, eR] at h; cases h]
            exact h
          rw [take_more hc, List.map_append]
          refine paired_snoc (Paired.mapP kk5 fun _ _ k => keep k) (keep ?_)
          show _ = some (HO.tup (((M.rows.getD c.toNat []).map fun z => ((plc O (cls G z) : Nat) : Int)).map V.int))
          rw [g3]
          exact kb
    rintro H4 ⟨as, a1, a2, z4, kk⟩
    rw [List.length_map] at a2 kk
    rw [List.take_length] at kk
    refine ⟨_, rfl, _, rfl, _, rfl, R, _, rfl, .inl ⟨SqL.of a1, fun p hp => ?_⟩⟩
    have sp := same_upd (o := .tup (as.map V.ref)) (Same.refl H4) hp
    have kp : upd H4 p (.tup (as.map V.ref)) p = some (.tup (as.map V.ref)) := upd_same
    have s05 := (z03.trans z4).trans sp
    have eo5 := sp _ _ (z4 _ _ eo3)
    have kk5 := Paired.mapP kk fun _ _ k => ITs sp k
    generalize upd H4 p (.tup (as.map V.ref)) = H5 at kp s05 eo5 kk5
    have hM5 := hM.same s05
    refine ⟨_, rfl, oa, rfl, ⟨_, SqL.of eo5⟩, fun D3 hD3 => ?_⟩
    have sD3 := fun o => same_upd (o := o) (Same.refl H5) hD3
    refine lc_it (walk_list (xs := O.map V.int)) (fun j H' => H' = upd H5 D3 (.lst (((O.take j).map fun c => M.out c).map V.int))) rfl (fun j H' _ e => by rw [e]; exact SqL.of (sD3 _ _ _ eo5)) ?_ ?_
    · rintro j y H6x H6 hj rfl ⟨rfl, h2⟩
      rw [List.length_map] at hj
      obtain ⟨c, hc, rfl⟩ := ofV h2
      have rp := rps _ (List.mem_of_getElem? hc)
      refine ⟨rfl, ?_⟩
      refine ⟨_, rfl, _, rfl, .inr (.inl ⟨ou, _, _, _, rfl, rfl, SqT.of (sD3 _ _ _ hM5.ou), atI_get? rp.1.1 (g.outp rp.1).1, ?_⟩)⟩
      refine ⟨_, upd_same, ?_, ?_⟩
      · rw [List.length_map, List.length_map, List.length_take]
        exact Nat.lt_of_le_of_lt (by omega : min j O.length ≤ 1000) (by decide)
      · rw [upd_upd, take_more hc, List.map_append, List.map_append]
        rfl
    rintro H6 rfl
    rw [List.length_map, List.take_length]
    refine ⟨D3, _, rfl, .inl ⟨SqL.of upd_same, fun q hq => ?_⟩⟩
    have s7 := (sD3 (.lst ((O.map fun c => M.out c).map V.int))).trans (same_upd (o := .tup ((O.map fun c => M.out c).map V.int)) (Same.refl _) hq)
    have kq : upd (upd H5 D3 (.lst ((O.map fun c => M.out c).map V.int))) q (.tup ((O.map fun c => M.out c).map V.int)) q = some (.tup ((O.map fun c => M.out c).map V.int)) := upd_same
    generalize upd (upd H5 D3 (.lst ((O.map fun c => M.out c).map V.int))) q (.tup ((O.map fun c => M.out c).map V.int)) = H7 at s7 kq
    refine ⟨(by show 4 ≤ sizeLine; decide), fun t ht => ?_⟩
    have s8 := same_upd (o := .tup [.int M.ls, .int M.os, .ref p, .ref q]) (Same.refl H7) ht
    have s57 := s7.trans s8
    refine fin' _ t (s05.trans s57) (s05.free (s7.free ht)) ⟨p, q, as, upd_same, s57 _ _ kp, s8 _ _ kq, ?_, fun i r w h1 h2 => ?_⟩
    · rw [a2]
      exact (List.length_map ..).symm
    · obtain ⟨y, h3, h4⟩ := L2.paired_get kk5 h1
      rw [show _ = some w from h2] at h3
      cases h3
      exact ITs s57 h4
end
end K25

set_option Elab.async false
set_option linter.all false
set_option maxRecDepth 100000
set_option maxHeartbeats 4000000
/-! small things: ifs, f-strings of small ints, places of lists -/
namespace Mz
open PySem PySem.Spec PyProof.Rows L2
theorem js_4 {t1 t2 : TE} {z1 z2 : Str} {i1 i2 : Int} {σ : L2.St} {H : Hp} {Q : Str → Hp → Prop} (h1 : ∀ {Q : VK}, Q (.int i1) H → t1 σ H Q) (h2 : ∀ {Q : VK}, Q (.int i2) H → t2 σ H Q) (b1 : i1.natAbs < 2 ^ 64) (b2 : i2.natAbs < 2 ^ 64) (l1 : z1.length ≤ 100) (l2 : z2.length ≤ 100)
    (k : ∀ out, Q out H) : tJs [tC (.str z1), tFmt t1, tC (.str z2), tFmt t2] Str.empty σ H Q := by
  have i1' := int_text_len_1921 (log_small b1)
  have i2' := int_text_len_1921 (log_small b2)
  refine ⟨z1, rfl, ?_, ?_⟩
  · rw [PySem.Str.length_append, sizeLine_eq]
    show 0 + z1.length ≤ _
    omega
  refine h1 (.inr ⟨i1, rfl, log_small b1, _, rfl, ?_, z2, rfl, ?_, ?_⟩)
  · rw [PySem.Str.length_append, PySem.Str.length_append, sizeLine_eq]
    show 0 + z1.length + _ ≤ _
    omega
  · rw [PySem.Str.length_append, PySem.Str.length_append, PySem.Str.length_append, sizeLine_eq]
    show 0 + z1.length + _ + _ ≤ _
    omega
  refine h2 (.inr ⟨i2, rfl, log_small b2, _, rfl, ?_, k _⟩)
  rw [PySem.Str.length_append, PySem.Str.length_append, PySem.Str.length_append, PySem.Str.length_append, sizeLine_eq]
  show 0 + z1.length + _ + _ + _ ≤ _
  omega
theorem js_2 {t1 : TE} {z1 : Str} {i1 : Int} {σ : L2.St} {H : Hp} {Q : Str → Hp → Prop} (h1 : ∀ {Q : VK}, Q (.int i1) H → t1 σ H Q) (b1 : i1.natAbs < 2 ^ 64) (l1 : z1.length ≤ 100)
    (k : ∀ out, Q out H) : tJs [tC (.str z1), tFmt t1] Str.empty σ H Q := by
  have i1' := int_text_len_1921 (log_small b1)
  refine ⟨z1, rfl, ?_, ?_⟩
  · rw [PySem.Str.length_append, sizeLine_eq]
    show 0 + z1.length ≤ _
    omega
  refine h1 (.inr ⟨i1, rfl, log_small b1, _, rfl, ?_, k _⟩)
  rw [PySem.Str.length_append, PySem.Str.length_append, sizeLine_eq]
  show 0 + z1.length + _ ≤ _
  omega
theorem iteN2 {c A B : Prop} [Decidable c] (h1 : ¬ c → A) (h2 : c → B) : if (!decide c) = true then A else B := by
  by_cases h : c
  · rw [if_neg (by simp [h])]
    exact h2 h
  · rw [if_pos (by simp [h])]
    exact h1 h
theorem iteB {b : Bool} {A B : Prop} (h1 : b = false → A) (h2 : b = true → B) : if (!b) = true then A else B := by
  cases b with
  | false => exact h1 rfl
  | true => exact h2 rfl
theorem iteT0 {A B : Prop} (h : A) : if (!false) = true then A else B := by
  exact h
theorem ixN_in {n : Nat} {k : Int} (h0 : 0 ≤ k) (h1 : k < n) : ixN n k = some k.toNat := by
  unfold ixN
  rw [if_pos h0, if_pos h1]
theorem lit_at {ns : List Int} {i : Int} (h0 : 0 ≤ i) (h1 : i < ns.length) : ∃ x ∈ ns, atI (ns.map V.int) i = some (.int x) := by
  have lt : i.toNat < ns.length := by omega
  exact ⟨ns[i.toNat], List.getElem_mem lt, atI_get? h0 (List.getElem?_eq_getElem lt)⟩
def tInv (I J : L2.St → Hp → Prop) : TS := fun D σ H => I σ H ∧ ∀ σ' H', J σ' H' → D.nx σ' H'
theorem cut_ints (ns : List Int) (lo hi : Option Int) : ∃ ms : List Int, cutV (ns.map V.int) lo hi = ms.map V.int ∧ ms.length ≤ ns.length := by
  refine ⟨(ns.drop (HT.sIx ns.length 0 lo)).take (HT.sIx ns.length ns.length hi - HT.sIx ns.length 0 lo), ?_, ?_⟩
  · unfold cutV
    rw [List.length_map, List.map_take, List.map_drop]
  · rw [List.length_take, List.length_drop]
    omega
end Mz

set_option Elab.async false
set_option linter.all false
set_option maxRecDepth 100000
set_option maxHeartbeats 4000000
namespace K25
open PySem PySem.Spec PyProof.Rows L2 Mz
/-! ### machines.py -/
def spBelow (K : PySem.W.Frag) (Pt : Addr) : Sp := fun vs H Q _ => ∃ (a : Addr) (ns : List Int) (L : Int), vs = [.ref a, .int L] ∧ Ints K H a ns ∧ GxR.TabG H Pt ∧ ∀ H', Kp Pt H H' → Q (.bl (belowB ns L)) H'
def spIsWord (K : PySem.W.Frag) (Pt : Addr) : Sp := fun vs H Q _ => ∃ (a : Addr) (ns : List Int) (k l : Int), vs = [.ref a, .int k, .int l] ∧ SqL K H a (ns.map V.int) ∧ GxR.TabG H Pt ∧
  ∀ H', Kp Pt H H' → Q (.bl (decide ((ns.length : Int) ≤ l) && belowB ns k)) H'
/-- the word fits -/
def fitB (k : Int) (ns : List Int) : Bool := decide ((ns.length : Int) ≤ 400) && belowB ns k
def spFits (K : PySem.W.Frag) (Pt : Addr) : Sp := fun vs H Q _ => ∃ (m a : Addr) (M : Mach) (ns : List Int), vs = [.ref m, .ref a] ∧ MA H m M ∧ SqL K H a (ns.map V.int) ∧ GxR.TabG H Pt ∧ ∀ H', Kp Pt H H' → Q (.bl (fitB M.ls ns)) H'
def spCheckWord (K : PySem.W.Frag) (A : Ads) (Pt : Addr) : Sp := fun vs H Q E => ∃ (m a : Addr) (M : Mach) (ns : List Int), vs = [.ref m, .ref a] ∧ MA H m M ∧ SqL K H a (ns.map V.int) ∧ GxR.TabG H Pt ∧
  ∀ H', Kp Pt H H' → (fitB M.ls ns = true → Q .non H') ∧ (fitB M.ls ns = false → E (.ref A.a_NotAllowed) none H')
theorem fit_lt {k : Int} {ns : List Int} (h : fitB k ns = true) : Lt k ns ∧ ns.length ≤ 400 := by
  unfold fitB at h
  rw [Bool.and_eq_true] at h
  exact ⟨below_iff.mp h.2, by have := h.1; simp at this; omega⟩
/-- sizes that can be told -/
structure Tame (M : Mach) : Prop where
  ls : M.ls.natAbs < 2 ^ 64
  os : M.os.natAbs < 2 ^ 63
  rows : M.rows.length < 2 ^ 63
def spCheck (K : PySem.W.Frag) (A : Ads) (Pt : Addr) : Sp := fun vs H Q E => ∃ (m : Addr) (M : Mach), vs = [.ref m] ∧ MA H m M ∧ Tame M ∧ GxR.TabG H Pt ∧
  ∀ H', Kp Pt H H' → (Good M → Q .non H') ∧ (¬ Good M → E (.ref A.a_NotAllowed) none H')
section
variable {P : Program} {w : World} {K : PySem.W.Frag} {mg : Str → Option Value} {base : Heap} {A : Ads} {c Pt : Addr}
theorem ok_below (T : Txt K mg A) (TB : GxR.TabB base mg c Pt) (hc : A.d_are_below.code = .ref c) : FnOk P w K mg base CX0 1 A.a_are_below A.d_are_below ["numbers", "limit"] (spBelow K Pt) := by
  refine okC T.F_are_below sc_are_below (fun vs H Q E h => ?_) (fun Ar outer s H vs Q E hr h => ?_)
  · obtain ⟨_, _, _, rfl, _⟩ := h
    rfl
  · obtain ⟨a, ns, L, rfl, hS, hT, fin⟩ := h
    refine ⟨_, (pss_one (ps_ret (pe_allQ (G := GBelow 1) hr (by rfl) T.n_all TB hc (by exact ⟨rfl, rfl, by decide, rfl, rfl, fun y hy e => by (simp only [List.mem_cons, List.not_mem_nil, or_false] at hy; rcases hy with rfl | rfl | rfl <;> first | (cases e; done) | exact cell_has rfl)⟩) (pv 0) (by exact elt_below rfl rfl rfl rfl rfl rfl) (fun _ => rfl)))), ?_⟩
    refine ⟨_, rfl, a, ns.map V.int, (fun v => match v with | .int n => decide (0 ≤ n) && decide (n < L) | _ => false), rfl, hS, hT, fun z hz => ?_, fun H2 hH2 => ?_⟩
    · obtain ⟨n, _, rfl⟩ := List.mem_map.mp hz
      exact ⟨n, L, rfl, rfl, rfl⟩
    · have e : (ns.map V.int).all (fun v => match v with | .int n => decide (0 ≤ n) && decide (n < L) | _ => false) = belowB ns L := by
        rw [List.all_map]
        rfl
      rw [e]
      exact fin H2 (.ofTabbed hH2)
theorem ok_isword (T : Txt K mg A) (TB : GxR.TabB base mg c Pt) (hc : A.d_are_below.code = .ref c) : FnOk P w K mg base CX0 2 A.a_is_word A.d_is_word ["word", "letters", "longest"] (spIsWord K Pt) := by
  have G_are_below : FnOk P w K mg base CX0 1 A.a_are_below A.d_are_below ["numbers", "limit"] (spBelow K Pt) := ok_below T TB hc
  refine T.F_is_word.ok sc_is_word (fun vs H Q E h => ?_) (fun cdv Ar outer s H vs Q E hr h => ?_)
  · obtain ⟨_, _, _, _, rfl, _⟩ := h
    rfl
  · obtain ⟨a, ns, k, l, rfl, hS, hT, fin⟩ := h
    have hr_are_below : Room 1 _ := hr
    refine ⟨_, (pss_one (ps_ret (pe_and (pe_cmpR op_le (pe_callB call_len_seq (by rfl) T.n_len PySem.boot_len (pa_cons (pv 0) pa_nil)) (pv 2) (nomark _)) (pe_one (pe_call G_are_below hr_are_below (by rfl) T.g_are_below T.F_are_below.kp T.b_are_below .nil pass0 (pa_cons (pv 0) (pa_cons (pv 1) pa_nil))))))), ?_⟩
    refine ⟨_, rfl, a, _, rfl, .inl hS, _, rfl, _, _, rfl, rfl, _, rfl, ?_⟩
    rw [List.length_map]
    refine ite2 (fun q => ?_) (fun q => ?_)
    · refine ⟨_, rfl, _, rfl, a, ns, k, rfl, .inl hS, hT, fun H' kp => ?_⟩
      have f := fin H' kp
      rw [q, Bool.true_and] at f
      exact f
    · have f := fin H (.refl hT)
      rw [Bool.eq_false_iff.mpr q, Bool.false_and] at f
      exact f
theorem ok_fits (T : Txt K mg A) (TB : GxR.TabB base mg c Pt) (hc : A.d_are_below.code = .ref c) : FnOk P w K mg base CX0 3 A.a_fits A.d_fits ["machine", "word"] (spFits K Pt) := by
  have G_is_word : FnOk P w K mg base CX0 2 A.a_is_word A.d_is_word ["word", "letters", "longest"] (spIsWord K Pt) := ok_isword T TB hc
  refine T.F_fits.ok sc_fits (fun vs H Q E h => ?_) (fun cdv Ar outer s H vs Q E hr h => ?_)
  · obtain ⟨_, _, _, _, rfl, _⟩ := h
    rfl
  · obtain ⟨m, a, M, ns, rfl, ⟨mv, ou, rs, hM⟩, hS, hT, fin⟩ := h
    have hr_is_word : Room 2 _ := hr
    refine ⟨_, (pss_one (ps_ret (pe_call G_is_word hr_is_word (by rfl) T.g_is_word T.F_is_word.kp T.b_is_word .nil pass0 (pa_cons (pv 1) (pa_cons (pe_ix (r := rIx K) ix_seq (pv 0) pe_int (fun _ _ => rfl)) (pa_cons (C8.pe_gc (v := .int 400) (by rfl) T.c_MAX_WORD) pa_nil)))))), ?_⟩
    refine ⟨_, rfl, _, rfl, .inr (.inl ⟨m, _, 0, .int M.ls, rfl, rfl, SqT.of hM.top, rfl, a, ns, M.ls, 400, rfl, hS, hT, fun H' kp => ?_⟩)⟩
    exact fin H' kp
theorem ok_checkword (T : Txt K mg A) (TB : GxR.TabB base mg c Pt) (hc : A.d_are_below.code = .ref c) : FnOk P w K mg base (L2N.CX P w) 4 A.a_check_word A.d_check_word ["machine", "word"] (spCheckWord K A Pt) := by
  have G_fits : FnOk P w K mg base CX0 3 A.a_fits A.d_fits ["machine", "word"] (spFits K Pt) := ok_fits T TB hc
  refine okN T.F_check_word sc_check_word (fun vs H Q E h => ?_) (fun cdv Ar outer s H vs Q E hr h => ?_)
  · obtain ⟨_, _, _, _, rfl, _⟩ := h
    rfl
  · obtain ⟨m, a, M, ns, rfl, hM, hS, hT, fin⟩ := h
    have hr_fits : Room 3 _ := hr
    refine ⟨_, (pss_one (ps_if (pt_not (pt_val (pe_call G_fits hr_fits (by rfl) T.g_fits T.F_fits.kp T.b_fits .nil pass0 (pa_cons (pv 0) (pa_cons (pv 1) pa_nil))))) (pss_one (L2N.ps_raise rfl (L2N.takes_of rfl rfl rfl rfl) (L2N.pmk_own PySem.F.excBase_ValueError T.x_NotAllowed T.g_NotAllowed T.k_NotAllowed (raises_own T.sb_NotAllowed T.ty_NotAllowed) (by rfl)))) pss_nil)), ?_⟩
    refine ⟨_, rfl, _, rfl, m, a, M, ns, rfl, hM, hS, hT, fun H' kp => ?_⟩
    refine ⟨_, rfl, ?_⟩
    cases e : fitB M.ls ns with
    | true => exact (fin H' kp).1 e
    | false => exact (fin H' kp).2 e
end
end K25

set_option Elab.async false
set_option linter.all false
set_option maxRecDepth 100000
set_option maxHeartbeats 4000000
/-! == and != of machines -/
namespace Mz
open PySem PySem.Spec PyProof.Rows L2
def dRow (w : List Int) : PyData := .tuple (w.map .int)
def dMach (M : Mach) : PyData := .tuple [.int M.ls, .int M.os, .tuple (M.rows.map dRow), dRow M.outs]
theorem depthI : ∀ ns : List Int, PyData.depthAll (ns.map PyData.int) ≤ 1
  | [] => by simp [PyData.depthAll]
  | _ :: r => by
    have := depthI r
    simp only [List.map_cons, PyData.depthAll, PyData.depth]
    omega
theorem lay_ints : ∀ ns : List Int, PyData.canLayAll0 (ns.map PyData.int) = true
  | [] => by simp [PyData.canLayAll0]
  | _ :: r => by simp [PyData.canLayAll0, PyData.canLay0, lay_ints r]
theorem depth_rows : ∀ rs : List (List Int), PyData.depthAll (rs.map dRow) ≤ 2
  | [] => by simp [PyData.depthAll]
  | w :: r => by
    have := depth_rows r
    have := depthI w
    simp only [List.map_cons, PyData.depthAll]
    have e : PyData.depth (dRow w) = 1 + PyData.depthAll (w.map PyData.int) ∨ PyData.depth (dRow w) = PyData.depthAll (w.map PyData.int) + 1 := by
      unfold dRow
      simp only [PyData.depth]
      omega
    omega
theorem lay_rows : ∀ rs : List (List Int), PyData.canLayAll0 (rs.map dRow) = true
  | [] => by simp [PyData.canLayAll0]
  | w :: r => by
    have := lay_rows r
    have := lay_ints w
    simp [PyData.canLayAll0, dRow, PyData.canLay0, *]
theorem lay_mach (M : Mach) : PyData.canLay0 (dMach M) = true := by
  have := lay_rows M.rows
  have := lay_ints M.outs
  unfold dMach dRow at *
  simp [PyData.canLayAll0, PyData.canLay0, *]
theorem shaped_mach (M : Mach) : SeqAt.shaped (dMach M) = true := by
  have h1 := depth_rows M.rows
  have h2 := depthI M.outs
  have h3 : PyData.depth (dMach M) ≤ 64 := by
    have e : PyData.depth (dRow M.outs) ≤ PyData.depthAll (M.outs.map PyData.int) + 1 := by
      unfold dRow
      simp only [PyData.depth]
      omega
    unfold dMach
    simp only [PyData.depthAll, PyData.depth]
    omega
  show (PyData.canLay0 (dMach M) && decide (PyData.depth (dMach M) ≤ 64)) = true
  rw [lay_mach, decide_eq_true h3]
  rfl
theorem dp_rows {K : PySem.W.Frag} {H : Hp} : ∀ (rs : List Addr) (rows : List (List Int)), rs.length = rows.length → (∀ (i : Nat) (r : Addr) (w : List Int), rs[i]? = some r → rows[i]? = some w → IT H r w) → DpAll K H (rs.map V.ref) (rows.map dRow)
  | [], [], _, _ => .nil
  | r :: rs, w :: rows, l, h => .cons (.tup (SqT.of (h 0 r w rfl rfl)) (dp_ints w)) (dp_rows rs rows (by simpa using l) fun i r w a b => h (i + 1) r w a b)
  | [], _ :: _, l, _ => by simp at l
  | _ :: _, [], l, _ => by simp at l
theorem dp_mach {K : PySem.W.Frag} {H : Hp} {m : Addr} {M : Mach} (h : MA H m M) : Dp K H (.ref m) (dMach M) := by
  obtain ⟨mv, ou, rs, hM⟩ := h
  exact .tup (SqT.of hM.top) (.cons (.int _) (.cons (.int _) (.cons (.tup (SqT.of hM.mv) (dp_rows rs M.rows hM.len hM.row)) (.cons (.tup (SqT.of hM.ou) (dp_ints M.outs)) .nil))))
section
variable {K : PySem.W.Frag} {H : Hp} {a b : Addr} {M : Mach} {Q : VK}
theorem eq_mach (h1 : MA H a M) (h2 : MA H b M) (q : Q (.bl true) H) : rEqD K (.ref a) (.ref b) H Q :=
  ⟨_, _, dp_mach h1, dp_mach h2, shaped_mach M, shaped_mach M, by rw [SeqAt.eqv_refl _ (lay_mach M)]; exact q⟩
theorem ne_mach (h1 : MA H a M) (h2 : MA H b M) (q : Q (.bl false) H) : rNeD K (.ref a) (.ref b) H Q :=
  ⟨_, _, dp_mach h1, dp_mach h2, shaped_mach M, shaped_mach M, by rw [SeqAt.eqv_refl _ (lay_mach M)]; exact q⟩
end
def rMinK (K : PySem.W.Frag) : List V → Hp → VK → Prop := rMin K
theorem call_minK {X : Cx} (hc : X.calm = true) : CallR X (.builtin "min") (rMinK X.K) := cr_min hc
end Mz

set_option Elab.async false
set_option linter.all false
set_option maxRecDepth 100000
set_option maxHeartbeats 4000000
/-! lists of lists of ints as data: in, not in, index; kinds of states -/
namespace Mz
open PySem PySem.Spec PyProof.Rows L2
theorem hu65 {k : Nat} {A : Around} (r : Room k A) : A.units + 65 < cLine := by
  have := r.un
  omega
def dLst (w : List Int) : PyData := .list (w.map .int)
def dLL (D : List (List Int)) : PyData := .list (D.map dLst)
theorem lay_lls : ∀ rs : List (List Int), PyData.canLayAll0 (rs.map dLst) = true
  | [] => by simp [PyData.canLayAll0]
  | w :: r => by
    have := lay_lls r
    have := lay_ints w
    simp [PyData.canLayAll0, dLst, PyData.canLay0, *]
theorem depth_lls : ∀ rs : List (List Int), PyData.depthAll (rs.map dLst) ≤ 2
  | [] => by simp [PyData.depthAll]
  | w :: r => by
    have := depth_lls r
    have := depthI w
    simp only [List.map_cons, PyData.depthAll]
    have e : PyData.depth (dLst w) ≤ PyData.depthAll (w.map PyData.int) + 1 := by
      unfold dLst
      simp only [PyData.depth]
      omega
    omega
theorem shaped_ll (D : List (List Int)) : SeqAt.shaped (dLL D) = true := by
  have h1 := depth_lls D
  have h3 : PyData.depth (dLL D) ≤ 64 := by
    unfold dLL
    simp only [PyData.depth]
    omega
  have h4 : PyData.canLay0 (dLL D) = true := by
    unfold dLL
    simp only [PyData.canLay0]
    exact lay_lls D
  show (PyData.canLay0 (dLL D) && decide (PyData.depth (dLL D) ≤ 64)) = true
  rw [h4, decide_eq_true h3]
  rfl
theorem shaped_l (w : List Int) : SeqAt.shaped (dLst w) = true := PySem.W.shaped_ints w
theorem eqv_l (a b : List Int) : PyData.eqv (dLst a) (dLst b) = decide (a = b) := eqv_lists a b
theorem any_ll (D : List (List Int)) (w : List Int) : ((D.map dLst).any fun z => PyData.eqv z (dLst w)) = decide (w ∈ D) := by
  rw [List.any_map, Bool.eq_iff_iff, List.any_eq_true, decide_eq_true_iff]
  constructor
  · rintro ⟨x, hx, h⟩
    have : PyData.eqv (dLst x) (dLst w) = true := h
    rw [eqv_l] at this
    rw [← of_decide_eq_true this]
    exact hx
  · intro h
    exact ⟨w, h, by show PyData.eqv (dLst w) (dLst w) = true; rw [eqv_l]; exact decide_eq_true rfl⟩
/-- a list of lists of ints -/
def LL (H : Hp) (as : List Addr) (D : List (List Int)) : Prop := as.length = D.length ∧ ∀ (i : Nat) (a : Addr) (w : List Int), as[i]? = some a → D[i]? = some w → H a = some (.lst (w.map V.int))
theorem LL.same {H H' : Hp} {as : List Addr} {D : List (List Int)} (h : LL H as D) (s : Same H H') : LL H' as D := ⟨h.1, fun i a w h1 h2 => s _ _ (h.2 i a w h1 h2)⟩
theorem dp_lls {K : PySem.W.Frag} {H : Hp} : ∀ {as : List Addr} {D : List (List Int)}, LL H as D → DpAll K H (as.map V.ref) (D.map dLst)
  | [], [], _ => .nil
  | a :: as, w :: D, h => .cons (.lst (SqL.of (h.2 0 a w rfl rfl)) (dp_ints w)) (dp_lls (as := as) (D := D) ⟨by have := h.1; simpa using this, fun i r w a b => h.2 (i + 1) r w a b⟩)
  | [], _ :: _, h => by have := h.1; simp at this
  | _ :: _, [], h => by have := h.1; simp at this
theorem dp_ll {K : PySem.W.Frag} {H : Hp} {p : Addr} {as : List Addr} {D : List (List Int)} (hp : H p = some (.lst (as.map V.ref))) (h : LL H as D) : Dp K H (.ref p) (dLL D) := .lst (SqL.of hp) (dp_lls h)
theorem dp_l {K : PySem.W.Frag} {H : Hp} {p : Addr} {w : List Int} (hp : H p = some (.lst (w.map V.int))) : Dp K H (.ref p) (dLst w) := .lst (SqL.of hp) (dp_ints w)
section
variable {K : PySem.W.Frag} {H : Hp} {p r : Addr} {as : List Addr} {D : List (List Int)} {w : List Int} {Q : VK}
theorem notin_ll (hr : H r = some (.lst (w.map V.int))) (hp : H p = some (.lst (as.map V.ref))) (h : LL H as D) (q : Q (.bl (!decide (w ∈ D))) H) : rNotInD K (.ref r) (.ref p) H Q :=
  ⟨dLst w, D.map dLst, dp_l hr, dp_ll hp h, shaped_l w, shaped_ll D, by rw [any_ll]; exact q⟩
theorem index_ll (hr : H r = some (.lst (w.map V.int))) (hp : H p = some (.lst (as.map V.ref))) (h : LL H as D) (m : w ∈ D) (q : Q (.int ((D.findIdx fun y => decide (y = w) : Nat))) H) : rIndexD K (.ref p) [.ref r] H Q := by
  have l : D.findIdx (fun y => decide (y = w)) < D.length := List.findIdx_lt_length_of_exists ⟨w, m, decide_eq_true rfl⟩
  have e : D[D.findIdx (fun y => decide (y = w))] = w := of_decide_eq_true (List.findIdx_getElem (w := l))
  refine ⟨p, .ref r, dLst w, D.map dLst, D.findIdx (fun y => decide (y = w)), dLst w, rfl, rfl, dp_ll hp h, dp_l hr, shaped_ll D, shaped_l w, ?_, by rw [eqv_l]; exact decide_eq_true rfl, fun k z hk hz => ?_, q⟩
  · rw [List.getElem?_map, List.getElem?_eq_getElem l, e]
    rfl
  · have h2 : ∃ x, D[k]? = some x ∧ z = dLst x := by
      rw [List.getElem?_map] at hz
      cases e2 : D[k]? with
      | none => rw [e2] at hz; cases hz
      | some x => rw [e2] at hz; exact ⟨x, rfl, (Option.some.inj hz).symm⟩
    obtain ⟨x, hx, rfl⟩ := h2
    rw [eqv_l]
    have h1 := List.not_of_lt_findIdx hk
    obtain ⟨lx, ex⟩ := List.getElem?_eq_some_iff.mp hx
    rw [ex] at h1
    simpa using h1
end
/-! ### kinds -/
/-- numbers that are equal just for related states -/
def Kinds (R : Nat → Nat → Prop) (n : Nat) (kd : List Int) : Prop := kd.length = n ∧ ∀ i j, i < n → j < n → (kd.getD i 0 = kd.getD j 0 ↔ R i j)
/-- the row of kinds of a state -/
def kRow (M : Mach) (kd : List Int) (i : Nat) : List Int := kd.getD i 0 :: (M.rows.getD i []).map fun z => kd.getD z.toNat 0
theorem kRow_iff {M : Mach} (g : Good M) {kd : List Int} {t : Nat} (k : Kinds (RM M t) M.rows.length kd) {i j : Nat} (hi : i < M.rows.length) (hj : j < M.rows.length) : kRow M kd i = kRow M kd j ↔ RM M (t + 1) i j := by
  have si : M.St (i : Int) := ⟨by omega, by omega⟩
  have sj : M.St (j : Int) := ⟨by omega, by omega⟩
  rw [RM_succ g si sj]
  unfold kRow
  obtain ⟨wi, a1, a2, a3⟩ := g.row si
  obtain ⟨wj, b1, b2, b3⟩ := g.row sj
  rw [show ((i : Int)).toNat = i by omega] at a1 a3
  rw [show ((j : Int)).toNat = j by omega] at b1 b3
  rw [a3, b3]
  have li := g.rl wi a2
  have lj := g.rl wj b2
  have nx : ∀ {s : Nat} {w : List Int} {a : Int}, M.rows.getD s [] = w → 0 ≤ a → ∀ (h : a.toNat < w.length), M.next (s : Int) a = w[a.toNat] := fun {s w a} e h0 h => by
    unfold Mach.next
    rw [show ((s : Int)).toNat = s by omega, e, List.getD_eq_getElem?_getD, List.getElem?_eq_getElem h]
    rfl
  have inb : ∀ {w : List Int}, w ∈ M.rows → ∀ {q : Nat} (h : q < w.length), (w[q]).toNat < M.rows.length := fun {w} hw {q} h => by
    have := g.rb w hw _ (List.getElem_mem h)
    omega
  constructor
  · intro h
    injection h with h1 h2
    refine ⟨(k.2 i j hi hj).mp h1, fun a a0 a1' => ?_⟩
    have la : a.toNat < wi.length := by omega
    have lb : a.toNat < wj.length := by omega
    have e : (wi.map fun z => kd.getD z.toNat 0)[a.toNat]? = (wj.map fun z => kd.getD z.toNat 0)[a.toNat]? := by rw [h2]
    rw [List.getElem?_map, List.getElem?_map, List.getElem?_eq_getElem la, List.getElem?_eq_getElem lb] at e
    have e := Option.some.inj e
    rw [nx a3 a0 la, nx b3 a0 lb]
    exact (k.2 _ _ (inb a2 la) (inb b2 lb)).mp e
  · rintro ⟨h1, h2⟩
    rw [(k.2 i j hi hj).mpr h1]
    congr 1
    apply List.ext_getElem
    · rw [List.length_map, List.length_map]
      omega
    · intro q q1 q2
      rw [List.length_map] at q1 q2
      rw [List.getElem_map, List.getElem_map]
      refine (k.2 _ _ (inb a2 q1) (inb b2 q2)).mpr ?_
      have := h2 (q : Int) (by omega) (by omega)
      rw [nx a3 (by omega) (show ((q : Int)).toNat < wi.length by omega), nx b3 (by omega) (show ((q : Int)).toNat < wj.length by omega)] at this
      exact this
theorem kinds_zero {M : Mach} (g : Good M) : Kinds (RM M 0) M.rows.length M.outs := ⟨g.ol, fun i j _ _ => by
  rw [RM_zero]
  rfl⟩
/-- behind as many rounds as states, the kinds are final -/
theorem kinds_all {M : Mach} (g : Good M) {kd : List Int} (k : Kinds (RM M M.rows.length) M.rows.length kd) : Kinds (EqM M) M.rows.length kd := by
  have n1 := g.s1
  have stop : ∃ e, e < M.rows.length ∧ ∀ i j, i < M.rows.length → j < M.rows.length → RM M e i j → RM M (e + 1) i j := by
    refine Classical.byContradiction fun n => ?_
    have := fine_few (n := M.rows.length) (d := M.rows.length) (R := RM M) (by omega) (eqv_RM M M.rows.length) (fun t x y h v a b => h v a (by omega)) (fun e he => ?_)
    · omega
    · refine Classical.byContradiction fun z => n ⟨e, he, fun i j hi hj r => Classical.byContradiction fun q => z ⟨i, j, hi, hj, r, q⟩⟩
  obtain ⟨e, he, st⟩ := stop
  refine ⟨k.1, fun i j hi hj => (k.2 i j hi hj).trans ⟨fun r v a => ?_, fun r v a _ => r v a⟩⟩
  exact stop_all g st v i j hi hj (fun v a b => r v a (by omega)) a
/-- the distinct ones, in the order of their first places -/
def dds (l : List (List Int)) : List (List Int) := l.foldl (fun D w => if w ∈ D then D else D ++ [w]) []
theorem dds_snoc (l : List (List Int)) (w : List Int) : dds (l ++ [w]) = if w ∈ dds l then dds l else dds l ++ [w] := by
  unfold dds
  rw [List.foldl_append]
  rfl
theorem dds_few : ∀ (n : Nat) (l : List (List Int)), l.length = n → (dds l).length ≤ n
  | 0, l, h => by
    rw [List.length_eq_zero_iff.mp h]
    exact Nat.le_refl 0
  | n + 1, l, h => by
    rcases List.eq_nil_or_concat l with e | ⟨l', w, e⟩
    · rw [e] at h
      cases h
    · rw [List.concat_eq_append] at e
      subst e
      rw [List.length_append] at h
      have := dds_few n l' (by simpa using h)
      rw [dds_snoc]
      split
      · omega
      · rw [List.length_append]
        show (dds l').length + 1 ≤ n + 1
        omega
end Mz

set_option Elab.async false
set_option linter.all false
set_option maxRecDepth 100000
set_option maxHeartbeats 4000000
namespace K25
open PySem PySem.Spec PyProof.Rows L2 Mz
def spKinds (K : PySem.W.Frag) : Sp := fun vs H Q _ => ∃ (m : Addr) (M : Mach), vs = [.ref m] ∧ MA H m M ∧ Good M ∧ ∀ (H' : Hp) (p : Addr) (kd : List Int), Same H H' → H p = none → H' p = some (.lst (kd.map V.int)) → Kinds (EqM M) M.rows.length kd → Q (.ref p) H'
section
variable {P : Program} {w : World} {K : PySem.W.Frag} {mg : Str → Option Value} {base : Heap} {A : Ads}
theorem ok_kinds (T : Txt K mg A) : FnOk P w K mg base CX0 1 A.a_law_kinds A.d_law_kinds ["machine"] (spKinds K) := by
  refine T.F_law_kinds.ok sc_law_kinds (fun vs H Q E h => ?_) (fun cdv Ar outer s H vs Q E hr h => ?_)
  · obtain ⟨_, _, rfl, _⟩ := h
    rfl
  · obtain ⟨m, M, rfl, hMA, g, fin⟩ := h
    obtain ⟨mv, ou, rs, hM⟩ := id hMA
    refine ⟨_, (pss_cons (ps_set (i := 1) sc_law_kinds.nd rfl (Or.inr rfl) (pe_callTy call_list_of (by rfl) T.n_list (by decide +kernel) (pa_cons (pe_ix (r := rIx K) ix_seq (pv 0) pe_int (fun _ _ => rfl)) pa_nil)))
      (pss_cons (ps_for PassesOwn.never rfl (pi_range1 (by rfl) T.n_range (pa_cons (pe_callB call_len_seq (by rfl) T.n_len PySem.boot_len (pa_cons (pv 1) pa_nil)) pa_nil)) (pg_name (i := 2) sc_law_kinds.nd rfl (Or.inl rfl))
        (pss_cons (ps_set (i := 3) sc_law_kinds.nd rfl (Or.inl rfl) (pe_lst pa_nil))
          (pss_cons (ps_set (i := 4) sc_law_kinds.nd rfl (Or.inl rfl) (pe_lst pa_nil))
          (pss_cons (ps_for PassesOwn.never rfl (pi_range1 (by rfl) T.n_range (pa_cons (pe_callB call_len_seq (by rfl) T.n_len PySem.boot_len (pa_cons (pv 1) pa_nil)) pa_nil)) (pg_name (i := 5) sc_law_kinds.nd rfl (Or.inl rfl))
            (pss_cons (ps_set (i := 6) sc_law_kinds.nd rfl (Or.inl rfl) (pe_op op_cat (pe_lst (pa_cons (pe_ix (r := rIx K) ix_seq (pv 1) (pv 5) (fun _ _ => rfl)) pa_nil)) (pe_lc (own := [("other", 7)]) (g := (gName 7)) (tt := tYes) rfl sc_law_kinds.nd (pi_tup (pe_ix (r := rIx K) ix_seq (pe_ix (r := rIx K) ix_seq (pv 0) pe_int (fun _ _ => rfl)) (pv 5) (fun _ _ => rfl))) (blkOk_by (N := ["machine", "kinds", "turn", "rows", "after", "state", "row", "other"]) (sc := defScope s_law_kinds) (by decide +kernel)) (fun _ _ _ _ _ => (pg_name (i := 7) sc_law_kinds.nd rfl (Or.inl rfl))) (fun _ _ _ _ _ => pts_nil) (fun _ _ _ _ _ => (pe_ix (r := rIx K) ix_seq (pv 1) (pv 7) (fun _ _ => rfl))))))
              (pss_cons (ps_if (pt_cmpR (op_notInD (hu65 hr)) (pv 6) (pv 3) rfl) (pss_one (ps_expr (pe_bm PySem.F.plainAttrs_list PySem.F.slot_list_append PySem.F.type_list_append mt_append (pv 3) (pa_cons (pv 6) pa_nil)))) pss_nil)
              (pss_one (ps_expr (pe_bm PySem.F.plainAttrs_list PySem.F.slot_list_append PySem.F.type_list_append mt_append (pv 4) (pa_cons (pe_bm PySem.F.plainAttrs_list PySem.F.slot_list_index PySem.F.type_list_index (mt_indexD (hu65 hr)) (pv 3) (pa_cons (pv 6) pa_nil)) pa_nil)))))))
          (pss_one (ps_set (i := 1) sc_law_kinds.nd rfl (Or.inr rfl) (pv 4)))))))
      (pss_one (ps_ret (pv 1))))), ?_⟩
    have n30 := g.s30
    have n1 := g.s1
    have ol := g.ol
    have l4 := g.l4
    have l1 := g.l1
    refine ⟨_, rfl, .inr (.inl ⟨m, _, 3, .ref ou, rfl, rfl, SqT.of hM.top, rfl, ou, _, rfl, .inr (SqT.of hM.ou), fun k0 hk0 => ?_⟩)⟩
    have s0 := same_upd (o := .lst (M.outs.map V.int)) (Same.refl H) hk0
    have lo : (M.outs.map V.int).length = M.rows.length := by rw [List.length_map, ol]
    refine ⟨_, rfl, k0, _, rfl, .inl (SqL.of upd_same), ?_⟩
    rw [lo]
    refine ⟨M.rows.length, rfl, by omega, by omega, for_range (fun t σ H' => ∃ (kp : Addr) (kd : List Int) (v2 v3 v4 v5 v6 v7 : Option V), σ = [some (.ref m), some (.ref kp), v2, v3, v4, v5, v6, v7] ∧ Same H H' ∧ H kp = none ∧ H' kp = some (.lst (kd.map V.int)) ∧ Kinds (RM M t) M.rows.length kd)
      ⟨k0, M.outs, _, _, _, _, _, _, rfl, s0, hk0, upd_same, kinds_zero g⟩ ?_ ?_⟩
    · clear s0 hk0 lo
      rintro t σ H1 ht ⟨kp, kd, v2, v3, v4, v5, v6, v7, rfl, s1, fk, ek, kk⟩
      have lk : (kd.map V.int).length = M.rows.length := by rw [List.length_map, kk.1]
      have KD : ∀ {z : Int} {H' : Hp} {Q : VK}, 0 ≤ z → z < (M.rows.length : Int) → H' kp = some (.lst (kd.map V.int)) → Q (.int (kd.getD z.toNat 0)) H' → rIx K (.ref kp) (.int z) H' Q := fun {z H' Q} h0 h1 h q => by
        have e : kd[z.toNat]? = some (kd.getD z.toNat 0) := by
          rw [List.getD_eq_getElem?_getD, List.getElem?_eq_getElem (by rw [kk.1]; omega)]
          rfl
        exact .inl ⟨kp, _, _, _, rfl, rfl, SqL.of h, atI_get? h0 e, q⟩
      refine ⟨Nat.zero_le _, fun rl hrl => ?_⟩
      refine ⟨Nat.zero_le _, fun al hal => ?_⟩
      have frl : H rl = none := s1.free hrl
      have s2 := same_upd (o := .lst []) s1 hrl
      have fal : H al = none := s2.free hal
      have ra : rl ≠ al := fun z => by
        rw [← z, upd_same] at hal
        cases hal
      have rk : rl ≠ kp := fun z => by
        rw [z, ek] at hrl
        cases hrl
      have ak : al ≠ kp := fun z => by
        rw [z, upd_ne rk.symm, ek] at hal
        cases hal
      have s3 := same_upd (o := .lst []) s2 hal
      have ek3 : (upd (upd H1 rl (.lst [])) al (.lst [])) kp = some (.lst (kd.map V.int)) := by
        rw [upd_ne ak.symm, upd_ne rk.symm]
        exact ek
      refine ⟨_, rfl, kp, _, rfl, .inl (SqL.of ek3), ?_⟩
      rw [lk]
      refine ⟨M.rows.length, rfl, by omega, by omega, for_range (fun k σ H' => ∃ (as : List Addr) (D : List (List Int)) (ai : List Int) (v5 v6 v7 : Option V), σ = [some (.ref m), some (.ref kp), some (.int ((0 : Int) + (t : Int))), some (.ref rl), some (.ref al), v5, v6, v7] ∧ Same H H' ∧ H' kp = some (.lst (kd.map V.int)) ∧ H' rl = some (.lst (as.map V.ref)) ∧ LL H' as D ∧ D.Nodup ∧ D.length ≤ k ∧ (∀ a ∈ as, a ≠ al ∧ a ≠ rl) ∧
          H' al = some (.lst (ai.map V.int)) ∧ ai.length = k ∧ ∀ i, i < k → ∃ q : Nat, ai[i]? = some (q : Int) ∧ D[q]? = some (kRow M kd i))
        ⟨[], [], [], _, _, _, rfl, s3, ek3, by rw [upd_ne ra]; exact upd_same, ⟨rfl, fun i a w h => by simp at h⟩, List.nodup_nil, Nat.le_refl _, fun a ha => absurd ha (by simp), upd_same, rfl, fun i hi => absurd hi (Nat.not_lt_zero _)⟩ ?_ ?_⟩
      · clear s2 s3 ek3 hrl hal
        rintro k σ H2 hk ⟨as, D, ai, v5, v6, v7, rfl, s2, ek2, er, ll, nod, dl, far, ea, la, pos⟩
        have hk : k < M.rows.length := by omega
        have stk : M.St (k : Int) := ⟨by omega, by omega⟩
        rw [show (0 : Int) + (k : Int) = (k : Int) by omega]
        obtain ⟨w1, g1, g2, g3⟩ := g.row stk
        obtain ⟨r, f1, f0⟩ := hM.rowAt stk.1 g1
        have lw := g.rl _ g2
        have ld := ll.1
        refine ⟨_, rfl, _, rfl, KD (by omega) (by omega) ek2 ⟨(by show 1 ≤ sizeLine; decide), fun x1 hx1 => ?_⟩⟩
        have sx := fun o => same_upd (o := o) (Same.refl H2) hx1
        refine ⟨_, rfl, .inr (.inl ⟨m, _, 2, .ref mv, rfl, rfl, SqT.of ((s2.trans (sx _)) _ _ hM.top), rfl, ?_⟩)⟩
        refine ⟨_, rfl, .inr (.inl ⟨mv, _, _, _, rfl, rfl, SqT.of ((s2.trans (sx _)) _ _ hM.mv), f1, ?_⟩)⟩
        refine ⟨r, rfl, ⟨_, SqT.of ((s2.trans (sx _)) _ _ f0)⟩, fun D2 hD2 => ?_⟩
        have s3 : Same H2 (upd H2 x1 (.lst [.int (kd.getD ((k : Int)).toNat 0)])) := sx _
        have ex1 : (upd H2 x1 (.lst [.int (kd.getD ((k : Int)).toNat 0)])) x1 = some (.lst [.int (kd.getD ((k : Int)).toNat 0)]) := upd_same
        generalize upd H2 x1 (.lst [.int (kd.getD ((k : Int)).toNat 0)]) = H3 at hD2 s3 ex1
        have sD := fun o => same_upd (o := o) (Same.refl H3) hD2
        refine lc_tup (K := K) (a := r) (xs := w1.map V.int) (fun j H' => H' = upd H3 D2 (.lst (((w1.take j).map fun z => kd.getD z.toNat 0).map V.int))) rfl (fun j H' _ e => by rw [e]; exact SqT.of (sD _ _ _ (s3 _ _ (s2 _ _ f0)))) ?_ ?_
        · rintro j y H5 hj rfl
          obtain ⟨z1, hz1, rfl⟩ := ofV hj
          have zb : M.St z1 := g.rb _ g2 z1 (List.mem_of_getElem? hz1)
          refine ⟨rfl, ?_⟩
          refine ⟨_, rfl, _, rfl, KD zb.1 zb.2 (sD _ _ _ (s3 _ _ ek2)) ⟨_, upd_same, ?_, ?_⟩⟩
          · rw [List.length_map, List.length_map, List.length_take]
            exact Nat.lt_of_le_of_lt (by omega : min j w1.length ≤ 1000) (by decide)
          · rw [upd_upd, take_more hz1, List.map_append, List.map_append]
            rfl
        rintro H5 rfl
        rw [List.length_map, List.take_length]
        refine ⟨x1, D2, _, _, rfl, rfl, sD _ _ _ ex1, upd_same, ?_, fun ro hro => ?_⟩
        · rw [List.length_map, List.length_map]
          exact Nat.le_of_lt (Nat.lt_of_le_of_lt (by show 1 + w1.length ≤ 30; omega) (by decide))
        have eRow : [V.int (kd.getD ((k : Int)).toNat 0)] ++ (w1.map fun z => kd.getD z.toNat 0).map V.int = (kRow M kd k).map V.int := by
          unfold kRow
          rw [show ((k : Int)).toNat = k by omega] at g3 ⊢
          rw [g3]
          rfl
        rw [eRow]
        have s5 : Same H2 (upd (upd H3 D2 (.lst ((w1.map fun z => kd.getD z.toNat 0).map V.int))) ro (.lst ((kRow M kd k).map V.int))) := (s3.trans (sD _)).trans (same_upd (Same.refl _) hro)
        have ero : (upd (upd H3 D2 (.lst ((w1.map fun z => kd.getD z.toNat 0).map V.int))) ro (.lst ((kRow M kd k).map V.int))) ro = some (.lst ((kRow M kd k).map V.int)) := upd_same
        have nro : H2 ro = none := (s3.trans (sD _)).free hro
        generalize upd (upd H3 D2 (.lst ((w1.map fun z => kd.getD z.toNat 0).map V.int))) ro (.lst ((kRow M kd k).map V.int)) = H6 at s5 ero
        have er6 := s5 _ _ er
        have ll6 := ll.same s5
        have ea6 := s5 _ _ ea
        have ek6 := s5 _ _ ek2
        have rorl : ro ≠ rl := fun z => by
          rw [z, er] at nro
          cases nro
        have roal : ro ≠ al := fun z => by
          rw [z, ea] at nro
          cases nro
        refine ⟨_, rfl, _, rfl, notin_ll ero er6 ll6 ⟨_, rfl, ?_⟩⟩
        -- behind the test
        have rest : ∀ (H7 : Hp) (as' : List Addr) (D' : List (List Int)), Same H H7 → H7 kp = some (.lst (kd.map V.int)) → H7 rl = some (.lst (as'.map V.ref)) → LL H7 as' D' → D'.Nodup → D'.length ≤ k + 1 → (∀ a ∈ as', a ≠ al ∧ a ≠ rl) → H7 al = some (.lst (ai.map V.int)) → (∀ (q : Nat) (w : List Int), D[q]? = some w → D'[q]? = some w) → kRow M kd k ∈ D' →
            (fun σ H' => ∃ (as : List Addr) (D : List (List Int)) (ai : List Int) (v5 v6 v7 : Option V), σ = [some (.ref m), some (.ref kp), some (.int ((0 : Int) + (t : Int))), some (.ref rl), some (.ref al), v5, v6, v7] ∧ Same H H' ∧ H' kp = some (.lst (kd.map V.int)) ∧ H' rl = some (.lst (as.map V.ref)) ∧ LL H' as D ∧ D.Nodup ∧ D.length ≤ k + 1 ∧ (∀ a ∈ as, a ≠ al ∧ a ≠ rl) ∧
              H' al = some (.lst (ai.map V.int)) ∧ ai.length = k + 1 ∧ ∀ i, i < k + 1 → ∃ q : Nat, ai[i]? = some (q : Int) ∧ D[q]? = some (kRow M kd i))
              [some (.ref m), some (.ref kp), some (.int ((0 : Int) + (t : Int))), some (.ref rl), some (.ref al), some (.int (k : Int)), some (.ref ro), v7] (upd H7 al (.lst (ai.map V.int ++ [.int ((D'.findIdx fun y => decide (y = kRow M kd k) : Nat))]))) := by
          intro H7 as' D' a1 a2 a3 a4 a5 a6 a7 a8 a9 a10
          have l : D'.findIdx (fun y => decide (y = kRow M kd k)) < D'.length := List.findIdx_lt_length_of_exists ⟨_, a10, decide_eq_true rfl⟩
          have e : D'[D'.findIdx (fun y => decide (y = kRow M kd k))] = kRow M kd k := of_decide_eq_true (List.findIdx_getElem (w := l))
          refine ⟨as', D', ai ++ [((D'.findIdx fun y => decide (y = kRow M kd k) : Nat) : Int)], _, _, _, rfl, same_set a1 fal, by rw [upd_ne ak.symm]; exact a2, by rw [upd_ne ra]; exact a3, ⟨a4.1, fun i a w h1 h2 => by rw [upd_ne (a7 a (List.mem_of_getElem? h1)).1]; exact a4.2 i a w h1 h2⟩, a5, a6, a7, by rw [upd_same, List.map_append]; rfl, by rw [List.length_append, la]; rfl, fun i hi => ?_⟩
          by_cases c : i < k
          · obtain ⟨q, q1, q2⟩ := pos i c
            exact ⟨q, get_app1 q1, a9 q _ q2⟩
          · have : i = k := by omega
            subst this
            refine ⟨_, by rw [List.getElem?_append_right (by omega), show i - ai.length = 0 by omega]; rfl, ?_⟩
            rw [List.getElem?_eq_getElem l, e]
        by_cases c : kRow M kd k ∈ D
        · rw [decide_eq_true c]
          refine ⟨_, rfl, .inl ⟨rfl, _, SqL.of ea6⟩, _, rfl, .inl ⟨rfl, _, SqL.of er6⟩, _, rfl, ?_⟩
          dsimp only [tNil]
          refine index_ll ero er6 ll6 c ?_
          refine ⟨al, _, _, rfl, rfl, ea6, ?_, rest H6 as D (s2.trans s5) ek6 er6 ll6 nod (by omega) far ea6 (fun _ _ h => h) c⟩
          rw [List.length_map]
          exact Nat.lt_of_le_of_lt (by omega : ai.length ≤ 30) (by decide)
        · rw [decide_eq_false c]
          refine ⟨_, rfl, .inl ⟨rfl, _, SqL.of er6⟩, _, rfl, rl, _, _, rfl, rfl, er6, ?_, ?_⟩
          · rw [List.length_map]
            exact Nat.lt_of_le_of_lt (by omega : as.length ≤ 30) (by decide)
          have er7 : (upd H6 rl (.lst (as.map V.ref ++ [.ref ro]))) rl = some (.lst ((as ++ [ro]).map V.ref)) := by
            rw [upd_same, List.map_append]
            rfl
          have ea7 : (upd H6 rl (.lst (as.map V.ref ++ [.ref ro]))) al = some (.lst (ai.map V.int)) := by
            rw [upd_ne ra.symm]
            exact ea6
          have ero7 : (upd H6 rl (.lst (as.map V.ref ++ [.ref ro]))) ro = some (.lst ((kRow M kd k).map V.int)) := by
            rw [upd_ne rorl]
            exact ero
          have ek7 : (upd H6 rl (.lst (as.map V.ref ++ [.ref ro]))) kp = some (.lst (kd.map V.int)) := by
            rw [upd_ne rk.symm]
            exact ek6
          have ll7 : LL (upd H6 rl (.lst (as.map V.ref ++ [.ref ro]))) (as ++ [ro]) (D ++ [kRow M kd k]) := by
            refine ⟨by rw [List.length_append, List.length_append, ld]; rfl, fun i a w h1 h2 => ?_⟩
            rcases get_app h2 with q | ⟨q1, q2⟩
            · rcases get_app h1 with p1 | ⟨p1, p2⟩
              · rw [upd_ne (far a (List.mem_of_getElem? p1)).2]
                exact ll6.2 i a w p1 q
              · have := (List.getElem?_eq_some_iff.mp q).1
                omega
            · rcases get_app h1 with p1 | ⟨p1, p2⟩
              · have := (List.getElem?_eq_some_iff.mp p1).1
                omega
              · rw [p2, q2]
                exact ero7
          have far7 : ∀ a ∈ as ++ [ro], a ≠ al ∧ a ≠ rl := fun a ha => by
            rcases List.mem_append.mp ha with z | z
            · exact far a z
            · rw [List.mem_singleton.mp z]
              exact ⟨roal, rorl⟩
          have nod7 : (D ++ [kRow M kd k]).Nodup := List.nodup_append.mpr ⟨nod, by simp, fun x hx y hy z => c (by rw [← List.mem_singleton.mp hy, ← z]; exact hx)⟩
          have m7 : kRow M kd k ∈ D ++ [kRow M kd k] := List.mem_append.mpr (.inr List.mem_cons_self)
          refine ⟨_, rfl, .inl ⟨rfl, _, SqL.of ea7⟩, _, rfl, .inl ⟨rfl, _, SqL.of er7⟩, _, rfl, ?_⟩
          dsimp only [tNil]
          refine index_ll ero7 er7 ll7 m7 ?_
          refine ⟨al, _, _, rfl, rfl, ea7, ?_, rest _ _ _ (same_set (s2.trans s5) frl) ek7 er7 ll7 nod7 (by rw [List.length_append]; show D.length + 1 ≤ k + 1; omega) far7 ea7 (fun _ _ h => get_app1 h) m7⟩
          rw [List.length_map]
          exact Nat.lt_of_le_of_lt (by omega : ai.length ≤ 30) (by decide)
      · rintro σ H2 ⟨as, D, ai, v5, v6, v7, rfl, s2, ek2, er, ll, nod, dl, far, ea, la, pos⟩
        rw [show ((M.rows.length : Int)).toNat = M.rows.length by omega] at la pos
        refine ⟨_, rfl, al, ai, _, _, _, _, _, _, rfl, s2, fal, ea, la, fun i j hi hj => ?_⟩
        rw [← kRow_iff g kk hi hj]
        obtain ⟨q, q1, q2⟩ := pos i hi
        obtain ⟨p, p1, p2⟩ := pos j hj
        rw [List.getD_eq_getElem?_getD, List.getD_eq_getElem?_getD, q1, p1]
        constructor
        · intro e
          have e : (q : Int) = (p : Int) := e
          have e : q = p := by omega
          subst e
          rw [q2] at p2
          exact Option.some.inj p2
        · intro e
          rw [e] at q2
          have := (List.getElem?_inj (List.getElem?_eq_some_iff.mp q2).1 nod).mp (q2.trans p2.symm)
          rw [this]
    · rintro σ H1 ⟨kp, kd, v2, v3, v4, v5, v6, v7, rfl, s1, fk, ek, kk⟩
      rw [show ((M.rows.length : Int)).toNat = M.rows.length by omega] at kk
      exact ⟨_, rfl, fin H1 kp kd s1 fk ek (kinds_all g kk)⟩
end
end K25

set_option Elab.async false
set_option linter.all false
set_option maxRecDepth 100000
set_option maxHeartbeats 4000000
/-! the least machine by any numbers of kinds, and states in place of classes -/
namespace Mz
open PySem PySem.Spec PyProof.Rows L2
section
variable {M : Mach} {kd : List Int}
/-- classes out of kinds -/
def gOf (kd : List Int) : List Int := kd.map (fi kd)
theorem rep_gOf (k : Kinds (EqM M) M.rows.length kd) : Rep (EqM M) M.rows.length (gOf kd) := by
  have h := rep_of (l := kd) (R := EqM M) fun i j x y hx hy => by
    obtain ⟨li, ei⟩ := List.getElem?_eq_some_iff.mp hx
    obtain ⟨lj, ej⟩ := List.getElem?_eq_some_iff.mp hy
    rw [← k.2 i j (by rw [← k.1]; exact li) (by rw [← k.1]; exact lj), List.getD_eq_getElem?_getD, List.getD_eq_getElem?_getD, hx, hy]
    rfl
  rw [k.1] at h
  exact h
theorem eqv_EqM (M : Mach) (n : Nat) : Eqv n (EqM M) := ⟨fun x v _ => rfl, fun x y h v a => (h v a).symm, fun x y z h1 h2 v a => (h1 v a).trans (h2 v a)⟩
theorem kind_cls (k : Kinds (EqM M) M.rows.length kd) {s t : Int} (hs : M.St s) (ht : M.St t) : kd.getD s.toNat 0 = kd.getD t.toNat 0 ↔ cls (gOf kd) s = cls (gOf kd) t := by
  have s0 := hs.1
  have s1 := hs.2
  have t0 := ht.1
  have t1 := ht.2
  rw [k.2 _ _ (by omega) (by omega)]
  exact (rep_eq (eqv_EqM M M.rows.length) (rep_gOf k) (by omega) (by omega)).symm
theorem ordStep_map {G : List Int} (row o : List Int) : ordStep G row o = (row.map (cls G)).foldl addC o := by
  unfold ordStep
  rw [List.foldl_map]
/-- rows of states of one class lead to the same classes -/
theorem row_cls {G : List Int} (g : Good M) (r : Rep (EqM M) M.rows.length G) {s : Int} (hs : M.St s) : (M.rows.getD s.toNat []).map (cls G) = (M.rows.getD (cls G s).toNat []).map (cls G) := by
  obtain ⟨rp, sm⟩ := cls_rp g r hs
  obtain ⟨w, a1, a2, a3⟩ := g.row hs
  obtain ⟨u, b1, b2, b3⟩ := g.row rp.1
  rw [a3, b3]
  have lw := g.rl w a2
  have lu := g.rl u b2
  apply List.ext_getElem
  · rw [List.length_map, List.length_map]
    omega
  · intro i i1 i2
    rw [List.length_map] at i1 i2
    rw [List.getElem_map, List.getElem_map]
    have i0 : (0 : Int) ≤ (i : Int) := by omega
    have il : (i : Int) < M.ls := by omega
    obtain ⟨n1, w', e1, e2⟩ := g.step hs i0 il
    obtain ⟨n2, u', e3, e4⟩ := g.step rp.1 i0 il
    rw [a1] at e1
    rw [b1] at e3
    cases e1
    cases e3
    rw [show ((i : Int)).toNat = i by omega, List.getElem?_eq_getElem i1] at e2
    rw [show ((i : Int)).toNat = i by omega, List.getElem?_eq_getElem i2] at e4
    rw [Option.some.inj e2, Option.some.inj e4]
    obtain ⟨p1, p2⟩ := cls_rp g r n1
    obtain ⟨p3, p4⟩ := cls_rp g r n2
    refine rp_uniq g r p1 p3 fun v hv => ?_
    rw [← p2 v hv, ← p4 v hv]
    exact sm.step g rfl i0 il v hv
/-- states whose classes are an order -/
structure Ords (M : Mach) (kd S : List Int) (O : List Int) : Prop where
  st : ∀ s ∈ S, M.St s
  cl : S.map (cls (gOf kd)) = O
theorem Ords.mem (k : Kinds (EqM M) M.rows.length kd) {S O : List Int} (o : Ords M kd S O) {z : Int} (hz : M.St z) : kd.getD z.toNat 0 ∈ S.map (fun s => kd.getD s.toNat 0) ↔ cls (gOf kd) z ∈ O := by
  rw [← o.cl]
  constructor
  · intro h
    obtain ⟨s, hs, e⟩ := List.mem_map.mp h
    exact List.mem_map.mpr ⟨s, hs, (kind_cls k (o.st s hs) hz).mp e⟩
  · intro h
    obtain ⟨s, hs, e⟩ := List.mem_map.mp h
    exact List.mem_map.mpr ⟨s, hs, (kind_cls k (o.st s hs) hz).mpr e⟩
/-- the place of a kind is the place of its class -/
theorem Ords.idx (k : Kinds (EqM M) M.rows.length kd) {S O : List Int} (o : Ords M kd S O) {z : Int} (hz : M.St z) (h : cls (gOf kd) z ∈ O) :
    (S.map fun s => kd.getD s.toNat 0)[plc O (cls (gOf kd) z)]? = some (kd.getD z.toNat 0) ∧ ∀ q, q < plc O (cls (gOf kd) z) → ∀ x, (S.map fun s => kd.getD s.toNat 0)[q]? = some x → x ≠ kd.getD z.toNat 0 := by
  obtain ⟨p1, p2⟩ := plc_at h
  rw [← o.cl, List.length_map] at p1
  have p2' : (S.map (cls (gOf kd)))[plc O (cls (gOf kd) z)]? = some (cls (gOf kd) z) := by rw [o.cl]; exact p2
  rw [List.getElem?_map, List.getElem?_eq_getElem (by rw [← o.cl]; exact p1)] at p2'
  have e := Option.some.inj p2'
  refine ⟨?_, fun q hq x hx ex => ?_⟩
  · rw [List.getElem?_map, List.getElem?_eq_getElem (by rw [← o.cl]; exact p1)]
    show some (kd.getD _ 0) = _
    rw [(kind_cls k (o.st _ (List.getElem_mem _)) hz).mpr e]
  · rw [List.getElem?_map] at hx
    cases e2 : S[q]? with
    | none => rw [e2] at hx; cases hx
    | some s =>
      rw [e2] at hx
      have e3 : kd.getD s.toNat 0 = x := Option.some.inj hx
      have hs := List.mem_of_getElem? e2
      have e4 := (kind_cls k (o.st s hs) hz).mp (e3.trans ex)
      have e5 : O[q]? = some (cls (gOf kd) z) := by
        rw [← o.cl, List.getElem?_map, e2, ← e4]
        rfl
      have h1 := List.not_of_lt_findIdx (xs := O) (p := fun y => decide (y = cls (gOf kd) z)) hq
      obtain ⟨l5, e6⟩ := List.getElem?_eq_some_iff.mp e5
      rw [e6] at h1
      simp at h1
end
end Mz

set_option Elab.async false
set_option linter.all false
set_option maxRecDepth 100000
set_option maxHeartbeats 4000000
namespace K25
open PySem PySem.Spec PyProof.Rows L2 Mz
theorem pe_indexK {X : Cx} {K : PySem.W.Frag} {o e : Expr} {to : TE} {t : TA} {apos cpos : Pos} (hK : X.K = K) (ho : PE X o to) (ha : PA X [e] t)
    (hbase : attributeBase o "index" X.env (eval o X.env) = eval o X.env := by rfl)
    (hfew : ((backTo cpos (starEach [e] X.env)).all (fun x => !x.1) && (backToKw cpos (keywordEach [] X.env)).all (fun x => x.1.isSome)
      && decide ([e].length + ([] : List Keyword).length + (if ([] : List Keyword).isEmpty then 0 else 1) < 30)) = true := by rfl)
    (hline : (apos.endLine == cpos.line) = true := by rfl) (hs : starEach [e] X.env = (false, eval e X.env) :: starEach [] X.env := by rfl) (hplain : (backTo cpos (starEach [] X.env)).any (·.1) = false := by rfl) :
    PE X (.Call (.Attribute o "index" apos) [e] [] cpos) (tBM K "list" (rIndex K) to t) := by
  subst hK
  exact pe_bm PySem.F.plainAttrs_list PySem.F.slot_list_index PySem.F.type_list_index mt_index ho ha hbase hfew hline hs hplain
theorem flat_ints (ns : List Int) : (ns.map V.int).all flatV = true := by
  rw [List.all_map]
  exact List.all_eq_true.mpr fun _ _ => rfl
theorem eqV_int (a b : Int) : eqV (.int a) (.int b) = decide (a = b) := by
  exact Bool.eq_iff_iff.mpr (by simp [eqV])
theorem inV_ints (c : Int) (ns : List Int) : inV (.int c) (ns.map V.int) = decide (c ∈ ns) := by
  unfold inV
  rw [List.any_map, Bool.eq_iff_iff, List.any_eq_true, decide_eq_true_iff]
  constructor
  · rintro ⟨x, hx, h⟩
    have : eqV (.int x) (.int c) = true := h
    rw [eqV_int] at this
    rw [← of_decide_eq_true this]
    exact hx
  · intro h
    exact ⟨c, h, by show eqV (.int c) (.int c) = true; rw [eqV_int]; exact decide_eq_true rfl⟩
def spLeastL (K : PySem.W.Frag) : Sp := fun vs H Q _ => ∃ (m : Addr) (M : Mach), vs = [.ref m] ∧ MA H m M ∧ Good M ∧
  ∀ (H' : Hp) (p : Addr) (G : List Int), Same H H' → H p = none → Rep (EqM M) M.rows.length G → MA H' p (leastBy M G (ordAt M G M.rows.length)) → Q (.ref p) H'
section
variable {P : Program} {w : World} {K : PySem.W.Frag} {mg : Str → Option Value} {base : Heap} {A : Ads}
theorem ok_leastl (T : Txt K mg A) : FnOk P w K mg base CX0 2 A.a_law_least A.d_law_least ["machine"] (spLeastL K) := by
  have G_law_kinds : FnOk P w K mg base CX0 1 A.a_law_kinds A.d_law_kinds ["machine"] (spKinds K) := ok_kinds T
  refine T.F_law_least.ok sc_law_least (fun vs H Q E h => ?_) (fun cdv Ar outer s H vs Q E hr h => ?_)
  · obtain ⟨_, _, rfl, _⟩ := h
    rfl
  · obtain ⟨m, M, rfl, hMA, g, fin⟩ := h
    have hr_law_kinds : Room 1 _ := hr
    obtain ⟨mv, ou, rs, hM⟩ := id hMA
    refine ⟨_, (pss_cons (ps_set (i := 1) sc_law_least.nd rfl (Or.inr rfl) (pe_call G_law_kinds hr_law_kinds (by rfl) T.g_law_kinds T.F_law_kinds.kp T.b_law_kinds .nil pass0 (pa_cons (pv 0) pa_nil)))
      (pss_cons (ps_set (i := 2) sc_law_least.nd rfl (Or.inl rfl) (pe_lst (pa_cons pe_int pa_nil)))
      (pss_cons (ps_set (i := 3) sc_law_least.nd rfl (Or.inr rfl) (pe_lst (pa_cons (pe_ix (r := rIx K) ix_seq (pv 1) pe_int (fun _ _ => rfl)) pa_nil)))
      (pss_cons (ps_for PassesOwn.never rfl (pi_range1 (by rfl) T.n_range (pa_cons (pe_callB call_len_seq (by rfl) T.n_len PySem.boot_len (pa_cons (pv 1) pa_nil)) pa_nil)) (pg_name (i := 4) sc_law_least.nd rfl (Or.inl rfl))
        (pss_one (ps_if (pt_cmpR op_lt (pv 4) (pe_callB call_len_seq (by rfl) T.n_len PySem.boot_len (pa_cons (pv 2) pa_nil)) (nomark _)) (pss_one (ps_for PassesOwn.never rfl (pi_tup (pe_ix (r := rIx K) ix_seq (pe_ix (r := rIx K) ix_seq (pv 0) pe_int (fun _ _ => rfl)) (pe_ix (r := rIx K) ix_seq (pv 2) (pv 4) (fun _ _ => rfl)) (fun _ _ => rfl))) (pg_name (i := 5) sc_law_least.nd rfl (Or.inl rfl))
                (pss_one (ps_if (pt_cmpR op_notIn_seq (pe_ix (r := rIx K) ix_seq (pv 1) (pv 5) (fun _ _ => rfl)) (pv 3) rfl) (pss_cons (ps_expr (pe_bm PySem.F.plainAttrs_list PySem.F.slot_list_append PySem.F.type_list_append mt_append (pv 3) (pa_cons (pe_ix (r := rIx K) ix_seq (pv 1) (pv 5) (fun _ _ => rfl)) pa_nil)))
                      (pss_one (ps_expr (pe_bm PySem.F.plainAttrs_list PySem.F.slot_list_append PySem.F.type_list_append mt_append (pv 2) (pa_cons (pv 5) pa_nil))))) pss_nil)))) pss_nil)))
      (pss_cons (ps_setLc (i := 6) (own := [("state", 7)]) (g := (gName 7)) (tt := tYes) rfl sc_law_least.nd rfl rfl (sw_true rfl rfl rfl (by decide +kernel)) (pi_list (pv 2)) (blkOk_by (N := ["machine", "kinds", "order", "seen", "at", "other", "moves", "state"]) (sc := defScope s_law_least) (by decide +kernel)) (fun _ _ _ _ _ => (pg_name (i := 7) sc_law_least.nd rfl (Or.inl rfl))) (fun _ _ _ _ _ => pts_nil) (fun _ _ _ _ _ => (pe_callTy (r := rTof K) (T := "tuple") call_tof (by rfl) T.n_tuple (by decide +kernel) (pa_cons (pe_lc (own := [("other", 5)]) (g := (gName 5)) (tt := tYes) (wi := iTup K (tOp (rIx K) (tOp (rIx K) (tVar 0) (tC (V.int 2))) (tVar 7))) rfl sc_law_least.nd (pi_tup (pe_ix (r := rIx K) ix_seq (pe_ix (r := rIx K) ix_seq (pv 0) pe_int (fun _ _ => rfl)) (pv 7) (fun _ _ => rfl))) (blkOk_at (blkOk_by (N := ["machine", "kinds", "order", "seen", "at", "other", "moves", "state"]) (sc := { kind := .function, names := [(".0", .local), ("state", .local), ("tuple", .globalImplicit), ("kinds", .cell), ("machine", .cell), ("seen", .cell)], isGenerator := false, isCoroutine := false }) (by decide +kernel)) (by rfl) (by rfl)) (fun _ _ _ _ _ => (pg_name (i := 5) sc_law_least.nd rfl (Or.inl rfl))) (fun _ _ _ _ _ => pts_nil) (fun _ _ _ _ _ => (pe_indexK (K := K) rfl (pv 3) (pa_cons (pe_ix (r := rIx K) ix_seq (pv 1) (pv 5) (fun _ _ => rfl)) pa_nil)))) pa_nil))))
      (pss_one (ps_ret (pe_tup (pa_cons (pe_ix (r := rIx K) ix_seq (pv 0) pe_int (fun _ _ => rfl)) (pa_cons (pe_ix (r := rIx K) ix_seq (pv 0) pe_int (fun _ _ => rfl)) (pa_cons (pe_callTy call_tuple_of (by rfl) T.n_tuple (by decide +kernel) (pa_cons (pv 6) pa_nil)) (pa_cons (pe_callTy call_tuple_of (by rfl) T.n_tuple (by decide +kernel) (pa_cons (pe_lc (own := [("state", 7)]) (g := (gName 7)) (tt := tYes) rfl sc_law_least.nd (pi_list (pv 2)) (blkOk_by (N := ["machine", "kinds", "order", "seen", "at", "other", "moves", "state"]) (sc := defScope s_law_least) (by decide +kernel)) (fun _ _ _ _ _ => (pg_name (i := 7) sc_law_least.nd rfl (Or.inl rfl))) (fun _ _ _ _ _ => pts_nil) (fun _ _ _ _ _ => (pe_ix (r := rIx K) ix_seq (pe_ix (r := rIx K) ix_seq (pv 0) pe_int (fun _ _ => rfl)) (pv 7) (fun _ _ => rfl)))) pa_nil)) pa_nil)))))))))))), ?_⟩
    have n30 := g.s30
    have n1 := g.s1
    have l4 := g.l4
    refine ⟨_, rfl, m, M, rfl, hMA, g, fun H1 kp kd s1 fk ek kk => ?_⟩
    have rG := rep_gOf kk
    have lk : (kd.map V.int).length = M.rows.length := by rw [List.length_map, kk.1]
    have KD : ∀ {z : Int} {H' : Hp} {Q : VK}, M.St z → H' kp = some (.lst (kd.map V.int)) → Q (.int (kd.getD z.toNat 0)) H' → rIx K (.ref kp) (.int z) H' Q := fun {z H' Q} hz h q => by
      have h0 := hz.1
      have h1 := hz.2
      have e : kd[z.toNat]? = some (kd.getD z.toNat 0) := by
        rw [List.getD_eq_getElem?_getD, List.getElem?_eq_getElem (by rw [kk.1]; omega)]
        rfl
      exact .inl ⟨kp, _, _, _, rfl, rfl, SqL.of h, atI_get? h0 e, q⟩
    refine ⟨(by show 1 ≤ sizeLine; decide), fun lo hlo => ?_⟩
    have s2 := same_upd (o := .lst [.int 0]) s1 hlo
    have ek2 := (same_upd (o := .lst [.int 0]) (Same.refl _) hlo) _ _ ek
    have elo : (upd H1 lo (.lst [.int 0])) lo = some (.lst [.int 0]) := upd_same
    have flo : H lo = none := s1.free hlo
    generalize upd H1 lo (.lst [.int 0]) = H2 at s2 ek2 elo
    refine ⟨_, rfl, KD g.st0 ek2 ⟨(by show 1 ≤ sizeLine; decide), fun se hse => ?_⟩⟩
    have s3 := same_upd (o := .lst [.int (kd.getD ((0 : Int)).toNat 0)]) s2 hse
    have fse : H se = none := s2.free hse
    have ls : lo ≠ se := fun z => by
      rw [z, hse] at elo
      cases elo
    have ek3 := (same_upd (o := .lst [.int (kd.getD ((0 : Int)).toNat 0)]) (Same.refl _) hse) _ _ ek2
    have elo3 := (same_upd (o := .lst [.int (kd.getD ((0 : Int)).toNat 0)]) (Same.refl _) hse) _ _ elo
    have kl : kp ≠ lo := fun z => by
      rw [z, hlo] at ek
      cases ek
    have ks : kp ≠ se := fun z => by
      rw [z, hse] at ek2
      cases ek2
    refine ⟨_, rfl, kp, _, rfl, .inl (SqL.of ek3), ?_⟩
    rw [lk]
    refine ⟨M.rows.length, rfl, by omega, by omega, for_range (fun k σ H' => ∃ (S : List Int) (v4 v5 v6 v7 : Option V), σ = [some (.ref m), some (.ref kp), some (.ref lo), some (.ref se), v4, v5, v6, v7] ∧ Same H H' ∧ H' kp = some (.lst (kd.map V.int)) ∧ H' lo = some (.lst (S.map V.int)) ∧ H' se = some (.lst ((S.map fun s => kd.getD s.toNat 0).map V.int)) ∧ Ords M kd S (ordAt M (gOf kd) k))
      ⟨[0], _, _, _, _, rfl, s3, ek3, elo3, upd_same, ⟨fun s hs => by rw [List.mem_singleton.mp hs]; exact g.st0, rfl⟩⟩ ?_ ?_⟩
    · clear s3 ek3 elo3 hse elo ek2 s2 hlo
      rintro k σ H3 hk ⟨S, v4, v5, v6, v7, rfl, s3, ek3, elo, ese, od⟩
      have hk : k < M.rows.length := by omega
      have ln := ord_len g rG k
      have lS : S.length = (ordAt M (gOf kd) k).length := by rw [← od.cl, List.length_map]
      rw [show (0 : Int) + (k : Int) = (k : Int) by omega]
      refine ⟨_, rfl, _, rfl, lo, _, rfl, .inl (SqL.of elo), _, _, rfl, rfl, _, rfl, ?_⟩
      rw [List.length_map]
      refine ite2 (fun c => ?_) (fun c => ?_)
      · have c : k < S.length := by simpa using c
        have ek' := List.getElem?_eq_getElem c
        have sin := List.getElem_mem c
        generalize S[k] = cc at ek' sin
        have stc := od.st cc sin
        have eO : (ordAt M (gOf kd) k)[k]? = some (cls (gOf kd) cc) := by
          rw [← od.cl, List.getElem?_map, ek']
          rfl
        obtain ⟨w1, g1, g2, g3⟩ := g.row stc
        obtain ⟨r, f1, f0⟩ := hM.rowAt stc.1 g1
        have lw := g.rl _ g2
        have nxt : ordAt M (gOf kd) (k + 1) = ordStep (gOf kd) w1 (ordAt M (gOf kd) k) := by
          show (if k < (ordAt M (gOf kd) k).length then ordStep (gOf kd) (M.rows.getD ((ordAt M (gOf kd) k).getD k 0).toNat []) (ordAt M (gOf kd) k) else ordAt M (gOf kd) k) = _
          have e9 : (ordAt M (gOf kd) k).getD k 0 = cls (gOf kd) cc := by
            rw [List.getD_eq_getElem?_getD, eO]
            rfl
          rw [if_pos (by omega), e9, ordStep_map, ordStep_map, ← row_cls g rG stc, g3]
        refine ⟨_, rfl, .inr (.inl ⟨m, _, 2, .ref mv, rfl, rfl, SqT.of (s3 _ _ hM.top), rfl, ?_⟩)⟩
        refine ⟨_, rfl, _, rfl, .inl ⟨lo, _, _, _, rfl, rfl, SqL.of elo, atI_get? (by omega) (by rw [show ((k : Int)).toNat = k by omega]; exact ek'), ?_⟩⟩
        refine .inr (.inl ⟨mv, _, _, _, rfl, rfl, SqT.of (s3 _ _ hM.mv), f1, ?_⟩)
        refine ⟨r, rfl, ⟨_, SqT.of (s3 _ _ f0)⟩, for_tup (K := K) (a := r) (xs := w1.map V.int) (fun i σ H' => ∃ (S : List Int) (v5 : Option V), σ = [some (.ref m), some (.ref kp), some (.ref lo), some (.ref se), some (.int (k : Int)), v5, v6, v7] ∧ Same H H' ∧ H' kp = some (.lst (kd.map V.int)) ∧ H' lo = some (.lst (S.map V.int)) ∧ H' se = some (.lst ((S.map fun s => kd.getD s.toNat 0).map V.int)) ∧ Ords M kd S (ordStep (gOf kd) (w1.take i) (ordAt M (gOf kd) k)))
          ⟨S, _, rfl, s3, ek3, elo, ese, od⟩ (fun i σ H' _ ⟨_, _, _, s, _⟩ => SqT.of (s _ _ f0)) ?_ ?_⟩
        · clear s3 ek3 elo ese od lS sin stc eO ek' c
          rintro i y σ H4 hi ⟨S, v5, rfl, s3, ek3, elo, ese, od⟩
          obtain ⟨z, hz, rfl⟩ := ofV hi
          have zb : M.St z := g.rb _ g2 z (List.mem_of_getElem? hz)
          have iw := (List.getElem?_eq_some_iff.mp hz).1
          have le := ordStep_len (G := gOf kd) (w1.take i) (ordAt M (gOf kd) k)
          rw [List.length_take] at le
          have lS : S.length = (ordStep (gOf kd) (w1.take i) (ordAt M (gOf kd) k)).length := by rw [← od.cl, List.length_map]
          have sn := ordStep_snoc (G := gOf kd) (w1.take i) z (ordAt M (gOf kd) k)
          rw [← take_more hz] at sn
          refine ⟨_, rfl, _, rfl, KD zb ek3 ?_⟩
          refine ⟨_, rfl, se, _, rfl, .inl (SqL.of ese), rfl, flat_ints _, ?_⟩
          rw [inV_ints]
          show ∃ k', _ ∧ _
          refine ⟨_, rfl, ?_⟩
          by_cases cm : cls (gOf kd) z ∈ ordStep (gOf kd) (w1.take i) (ordAt M (gOf kd) k)
          · rw [decide_eq_true ((od.mem kk zb).mpr cm)]
            refine ⟨S, _, rfl, s3, ek3, elo, ese, ⟨od.st, ?_⟩⟩
            rw [sn, od.cl]
            unfold addC
            rw [if_pos cm]
          · rw [decide_eq_false (fun q => cm ((od.mem kk zb).mp q))]
            refine ⟨_, rfl, .inl ⟨rfl, _, SqL.of ese⟩, _, rfl, _, rfl, KD zb ek3 ⟨se, _, _, rfl, rfl, ese, ?_, ?_⟩⟩
            · rw [List.length_map, List.length_map]
              exact Nat.lt_of_le_of_lt (by omega : S.length ≤ 1000) (by decide)
            have elo5 : (upd H4 se (.lst ((S.map fun s => kd.getD s.toNat 0).map V.int ++ [.int (kd.getD z.toNat 0)]))) lo = some (.lst (S.map V.int)) := by
              rw [upd_ne ls]
              exact elo
            refine ⟨_, rfl, .inl ⟨rfl, _, SqL.of elo5⟩, _, rfl, lo, _, _, rfl, rfl, elo5, ?_, ?_⟩
            · rw [List.length_map]
              exact Nat.lt_of_le_of_lt (by omega : S.length ≤ 1000) (by decide)
            refine ⟨S ++ [z], _, rfl, same_set (same_set s3 fse) flo, by rw [upd_ne kl, upd_ne ks]; exact ek3, by rw [upd_same, List.map_append]; rfl, by rw [upd_ne ls.symm, upd_same, List.map_append, List.map_append]; rfl, ⟨fun s hs => ?_, ?_⟩⟩
            · rcases List.mem_append.mp hs with q | q
              · exact od.st s q
              · rw [List.mem_singleton.mp q]
                exact zb
            · rw [List.map_append, od.cl, sn]
              unfold addC
              rw [if_neg cm]
              rfl
        · rintro σ H4 ⟨S, v5, rfl, s3, ek3, elo, ese, od⟩
          rw [List.length_map, List.take_length, ← nxt] at od
          exact ⟨S, _, v5, v6, v7, rfl, s3, ek3, elo, ese, od⟩
      · have c : S.length ≤ k := by simp at c; omega
        refine ⟨S, _, _, _, _, rfl, s3, ek3, elo, ese, ?_⟩
        have e : ordAt M (gOf kd) (k + 1) = ordAt M (gOf kd) k := by
          show (if k < (ordAt M (gOf kd) k).length then ordStep (gOf kd) (M.rows.getD ((ordAt M (gOf kd) k).getD k 0).toNat []) (ordAt M (gOf kd) k) else ordAt M (gOf kd) k) = _
          rw [if_neg (by omega)]
        rw [e]
        exact od
    · clear s3 ek3 elo3 hse elo ek2 s2 hlo
      rintro σ H3 ⟨S, v4, v5, v6, v7, rfl, s3, ek3, elo, ese, od⟩
      rw [show ((M.rows.length : Int)).toNat = M.rows.length by omega] at od
      have ln := ord_len g rG M.rows.length
      have clo : ∀ {c z : Int}, c ∈ ordAt M (gOf kd) M.rows.length → z ∈ M.rows.getD c.toNat [] → cls (gOf kd) z ∈ ordAt M (gOf kd) M.rows.length := fun {c z} h1 h2 => ord_closed g rG h1 h2
      have fin' : ∀ (H' : Hp) (p : Addr), Same H H' → H p = none → MA H' p (leastBy M (gOf kd) (ordAt M (gOf kd) M.rows.length)) → Q (.ref p) H' := fun H' p a1 a2 a3 => fin H' p (gOf kd) a1 a2 rG a3
      have inO : ∀ s ∈ S, cls (gOf kd) s ∈ ordAt M (gOf kd) M.rows.length := fun s hs => by
        rw [← od.cl]
        exact List.mem_map.mpr ⟨s, hs, rfl⟩
      have lS : S.length = (ordAt M (gOf kd) M.rows.length).length := by rw [← od.cl, List.length_map]
      -- rows and outputs of states are those of their classes
      have rowS : ∀ s ∈ S, (M.rows.getD s.toNat []).map (fun z => ((plc (ordAt M (gOf kd) M.rows.length) (cls (gOf kd) z) : Nat) : Int)) = (M.rows.getD (cls (gOf kd) s).toNat []).map fun z => ((plc (ordAt M (gOf kd) M.rows.length) (cls (gOf kd) z) : Nat) : Int) := fun s hs => by
        have e := row_cls g rG (od.st s hs)
        have e2 := congrArg (List.map fun c => ((plc (ordAt M (gOf kd) M.rows.length) c : Nat) : Int)) e
        rw [List.map_map, List.map_map] at e2
        exact e2
      have outS : ∀ s ∈ S, M.out s = M.out (cls (gOf kd) s) := fun s hs => (cls_rp g rG (od.st s hs)).2 [] (fun _ h => by cases h)
      have inb : ∀ s ∈ S, ∀ z ∈ M.rows.getD s.toNat [], cls (gOf kd) z ∈ ordAt M (gOf kd) M.rows.length := fun s hs z hz => by
        have h1 : cls (gOf kd) z ∈ (M.rows.getD s.toNat []).map (cls (gOf kd)) := List.mem_map.mpr ⟨z, hz, rfl⟩
        rw [row_cls g rG (od.st s hs)] at h1
        obtain ⟨z', hz', e⟩ := List.mem_map.mp h1
        rw [← e]
        exact clo (inO s hs) hz'
      have eO : leastBy M (gOf kd) (ordAt M (gOf kd) M.rows.length) = ⟨M.ls, M.os, S.map fun s => (M.rows.getD s.toNat []).map fun z => ((plc (ordAt M (gOf kd) M.rows.length) (cls (gOf kd) z) : Nat) : Int), S.map fun s => M.out s⟩ := by
        unfold leastBy
        congr 1
        · conv => lhs; rw [← od.cl]
          rw [List.map_map]
          refine List.map_congr_left fun s hs => ?_
          have := (rowS s hs).symm
          rw [od.cl]
          exact this
        · conv => lhs; rw [← od.cl]
          rw [List.map_map]
          exact List.map_congr_left fun s hs => (outS s hs).symm
      rw [eO] at fin'
      have idx := fun {z : Int} (hz : M.St z) h => od.idx kk hz h
      generalize ordAt M (gOf kd) M.rows.length = O at ln clo inO lS rowS inb idx fin' eO
      have ITs : ∀ {X Y : Hp} {b : Addr} {u : List Int}, Same X Y → IT X b u → IT Y b u := fun s h => s _ _ h
      refine ⟨_, rfl, lo, rfl, ⟨_, SqL.of elo⟩, fun R hR => ?_⟩
      refine lc_list (K := K) (a := lo) (xs := S.map V.int) (fun i H' => ∃ as : List Addr, H' R = some (.lst (as.map V.ref)) ∧ as.length = i ∧ Same H3 H' ∧ Paired (fun b q => IT H' b q) as ((S.take i).map fun s => (M.rows.getD s.toNat []).map fun z => ((plc O (cls (gOf kd) z) : Nat) : Int)))
        ⟨[], upd_same, rfl, same_upd (Same.refl _) hR, .nil⟩ (fun i H' _ ⟨_, _, _, s, _⟩ => SqL.of (s _ _ elo)) ?_ ?_
      · rintro i y H4 hi ⟨as, a1, a2, z, kks⟩
        obtain ⟨c, hc, rfl⟩ := ofV hi
        have iS := (List.getElem?_eq_some_iff.mp hc).1
        have mc := List.mem_of_getElem? hc
        have stc := od.st c mc
        obtain ⟨w1, g1, g2, g3⟩ := g.row stc
        have s14 := s3.trans z
        obtain ⟨r, f1, f0⟩ := hM.rowAt stc.1 g1
        have hM4 := hM.same s14
        have f2 := s14 _ _ f0
        have lw := g.rl _ g2
        refine ⟨rfl, ?_⟩
        refine ⟨_, rfl, .inr (.inl ⟨m, _, 2, .ref mv, rfl, rfl, SqT.of hM4.top, rfl, ?_⟩)⟩
        refine ⟨_, rfl, .inr (.inl ⟨mv, _, _, _, rfl, rfl, SqT.of hM4.mv, f1, ?_⟩)⟩
        refine ⟨r, rfl, ⟨_, SqT.of f2⟩, fun D2 hD2 => ?_⟩
        have sD2 := fun o => same_upd (o := o) (Same.refl H4) hD2
        refine lc_tup (K := K) (a := r) (xs := w1.map V.int) (fun j H' => H' = upd H4 D2 (.lst (((w1.take j).map fun z => ((plc O (cls (gOf kd) z) : Nat) : Int)).map V.int))) rfl (fun j H' _ e => by rw [e]; exact SqT.of (sD2 _ _ _ f2)) ?_ ?_
        · rintro j y H5 hj rfl
          obtain ⟨z1, hz1, rfl⟩ := ofV hj
          have zb : M.St z1 := g.rb _ g2 z1 (List.mem_of_getElem? hz1)
          have inn := inb c mc z1 (by rw [g3]; exact List.mem_of_getElem? hz1)
          obtain ⟨x1, x2⟩ := idx zb inn
          have sk := (sD2 (.lst (((w1.take j).map fun z => ((plc O (cls (gOf kd) z) : Nat) : Int)).map V.int)))
          have eSe := sk _ _ (z _ _ ese)
          refine ⟨rfl, ?_⟩
          refine ⟨_, rfl, .inl ⟨rfl, _, SqL.of eSe⟩, _, rfl, _, rfl, KD zb (sk _ _ (z _ _ ek3)) ?_⟩
          refine ⟨se, _, _, plc O (cls (gOf kd) z1), _, rfl, rfl, SqL.of eSe, rfl, flat_ints _, getV x1, by rw [eqV_int]; exact decide_eq_true rfl, fun q v hq hv => ?_, ?_⟩
          · obtain ⟨x, hx, rfl⟩ := ofV hv
            rw [eqV_int]
            exact decide_eq_false (x2 q hq x hx)
          refine ⟨_, upd_same, ?_, ?_⟩
          · rw [List.length_map, List.length_map, List.length_take]
            exact Nat.lt_of_le_of_lt (by omega : min j w1.length ≤ 1000) (by decide)
          · rw [upd_upd, take_more hz1, List.map_append, List.map_append]
            rfl
        · rintro H5 rfl
          rw [List.length_map, List.take_length]
          refine ⟨D2, _, rfl, .inl ⟨SqL.of upd_same, fun b hb => ?_⟩⟩
          have s5 := (sD2 (.lst ((w1.map fun z => ((plc O (cls (gOf kd) z) : Nat) : Int)).map V.int))).trans (same_upd (o := .tup ((w1.map fun z => ((plc O (cls (gOf kd) z) : Nat) : Int)).map V.int)) (Same.refl _) hb)
          have eR := s5 _ _ a1
          have kb : upd (upd H4 D2 (.lst ((w1.map fun z => ((plc O (cls (gOf kd) z) : Nat) : Int)).map V.int))) b (.tup ((w1.map fun z => ((plc O (cls (gOf kd) z) : Nat) : Int)).map V.int)) b = some (.tup ((w1.map fun z => ((plc O (cls (gOf kd) z) : Nat) : Int)).map V.int)) := upd_same
          refine ⟨_, eR, ?_, as ++ [b], by rw [upd_same, List.map_append]; rfl, by rw [List.length_append, a2]; rfl, same_set (z.trans s5) hR, ?_⟩
          · rw [List.length_map]
            exact Nat.lt_of_le_of_lt (by omega : as.length ≤ 1000) (by decide)
          · have kk5 := Paired.mapP kks fun _ _ k => ITs s5 k
            generalize upd (upd H4 D2 (.lst ((w1.map fun z => ((plc O (cls (gOf kd) z) : Nat) : Int)).map V.int))) b (.tup ((w1.map fun z => ((plc O (cls (gOf kd) z) : Nat) : Int)).map V.int)) = H6 at eR kb kk5
            have keep : ∀ {d : Addr} {q : List Int}, IT H6 d q → IT (upd H6 R (.lst (as.map V.ref ++ [.ref b]))) d q := fun {d q} h => by
              unfold IT at h ⊢
              rw [upd_ne fun zz => by rw [zz, eR] at h; cases h]
              exact h
            rw [take_more hc, List.map_append]
            refine paired_snoc (Paired.mapP kk5 fun _ _ k => keep k) (keep ?_)
            show _ = some (HO.tup (((M.rows.getD c.toNat []).map fun z => ((plc O (cls (gOf kd) z) : Nat) : Int)).map V.int))
            rw [g3]
            exact kb
      rintro H4 ⟨as, a1, a2, z4, kks⟩
      rw [List.length_map] at a2 kks
      rw [List.take_length] at kks
      have s14 := s3.trans z4
      have hM4 := hM.same s14
      refine ⟨_, rfl, .inr (.inl ⟨m, _, 0, _, rfl, rfl, SqT.of hM4.top, rfl, ?_⟩)⟩
      refine ⟨_, rfl, .inr (.inl ⟨m, _, 1, _, rfl, rfl, SqT.of hM4.top, rfl, ?_⟩)⟩
      refine ⟨_, rfl, R, _, rfl, .inl ⟨SqL.of a1, fun p hp => ?_⟩⟩
      have sp := same_upd (o := .tup (as.map V.ref)) (Same.refl H4) hp
      have kp' : upd H4 p (.tup (as.map V.ref)) p = some (.tup (as.map V.ref)) := upd_same
      have s05 := s14.trans sp
      have eo5 := sp _ _ (z4 _ _ elo)
      have kk5 := Paired.mapP kks fun _ _ k => ITs sp k
      generalize upd H4 p (.tup (as.map V.ref)) = H5 at kp' s05 eo5 kk5
      have hM5 := hM.same s05
      refine ⟨_, rfl, lo, rfl, ⟨_, SqL.of eo5⟩, fun D3 hD3 => ?_⟩
      have sD3 := fun o => same_upd (o := o) (Same.refl H5) hD3
      refine lc_list (K := K) (a := lo) (xs := S.map V.int) (fun j H' => H' = upd H5 D3 (.lst (((S.take j).map fun c => M.out c).map V.int))) rfl (fun j H' _ e => by rw [e]; exact SqL.of (sD3 _ _ _ eo5)) ?_ ?_
      · rintro j y H6 hj rfl
        obtain ⟨c, hc, rfl⟩ := ofV hj
        have iO := (List.getElem?_eq_some_iff.mp hc).1
        have stc := od.st c (List.mem_of_getElem? hc)
        refine ⟨rfl, ?_⟩
        refine ⟨_, rfl, .inr (.inl ⟨m, _, 3, .ref ou, rfl, rfl, SqT.of (sD3 _ _ _ hM5.top), rfl, ?_⟩)⟩
        refine ⟨_, rfl, .inr (.inl ⟨ou, _, _, _, rfl, rfl, SqT.of (sD3 _ _ _ hM5.ou), atI_get? stc.1 (g.outp stc).1, ?_⟩)⟩
        refine ⟨_, upd_same, ?_, ?_⟩
        · rw [List.length_map, List.length_map, List.length_take]
          exact Nat.lt_of_le_of_lt (by omega : min j S.length ≤ 1000) (by decide)
        · rw [upd_upd, take_more hc, List.map_append, List.map_append]
          rfl
      rintro H6 rfl
      rw [List.length_map, List.take_length]
      refine ⟨D3, _, rfl, .inl ⟨SqL.of upd_same, fun q hq => ?_⟩⟩
      have s7 := (sD3 (.lst ((S.map fun c => M.out c).map V.int))).trans (same_upd (o := .tup ((S.map fun c => M.out c).map V.int)) (Same.refl _) hq)
      have kq : upd (upd H5 D3 (.lst ((S.map fun c => M.out c).map V.int))) q (.tup ((S.map fun c => M.out c).map V.int)) q = some (.tup ((S.map fun c => M.out c).map V.int)) := upd_same
      generalize upd (upd H5 D3 (.lst ((S.map fun c => M.out c).map V.int))) q (.tup ((S.map fun c => M.out c).map V.int)) = H7 at s7 kq
      refine ⟨(by show 4 ≤ sizeLine; decide), fun t ht => ?_⟩
      have s8 := same_upd (o := .tup [.int M.ls, .int M.os, .ref p, .ref q]) (Same.refl H7) ht
      have s57 := s7.trans s8
      refine fin' _ t (s05.trans s57) (s05.free (s7.free ht)) ⟨p, q, as, upd_same, s57 _ _ kp', s8 _ _ kq, ?_, fun i r w h1 h2 => ?_⟩
      · show as.length = (S.map _).length
        rw [List.length_map]
        exact a2
      · obtain ⟨y, h3, h4⟩ := L2.paired_get kk5 h1
        have h5 := h3.symm.trans h2
        cases h5
        exact ITs s57 h4
end
end K25

set_option Elab.async false
set_option linter.all false
set_option maxRecDepth 100000
set_option maxHeartbeats 4000000
namespace K25
open PySem PySem.Spec PyProof.Rows L2 Mz
/-- the first word that parts a pair, or None -/
def spParting (K : PySem.W.Frag) : Sp := fun vs H Q _ => ∃ (f s t : Addr) (M N : Mach) (p : Pr), vs = [.ref f, .ref s, .ref t] ∧ MA H f M ∧ MA H s N ∧ Kin M N ∧ InP M N p ∧ H t = some (.tup [.int p.1, .int p.2]) ∧
  ∀ H', Same H H' → (∀ (u : List Int) (r : Addr), Part M N p u → H r = none → H' r = some (.lst (u.map V.int)) → Q (.ref r) H') ∧ (NoPart M N p → Q .non H')
section
variable {P : Program} {w : World} {K : PySem.W.Frag} {mg : Str → Option Value} {base : Heap} {A : Ads}
theorem ok_parting (T : Txt K mg A) : FnOk P w K mg base CX0 1 A.a_first_parting A.d_first_parting ["first", "second", "start"] (spParting K) := by
  refine T.F_first_parting.ok sc_first_parting (fun vs H Q E h => ?_) (fun cdv Ar outer s H vs Q E hr h => ?_)
  · obtain ⟨_, _, _, _, _, _, rfl, _⟩ := h
    rfl
  · obtain ⟨f, s2, t, M, N, p, rfl, ⟨mv, ou, rs, hM⟩, ⟨mv2, ou2, rs2, hN⟩, k, hp, ht, fin⟩ := h
    refine ⟨_, (pss_cons (ps_set (i := 3) sc_first_parting.nd rfl (Or.inl rfl) (pe_disp1T (hu_of hr) (pv 2) (pe_lst pa_nil)))
      (pss_cons (ps_set (i := 4) sc_first_parting.nd rfl (Or.inl rfl) (pe_lst (pa_cons (pv 2) pa_nil)))
      (pss_cons (ps_set (i := 5) sc_first_parting.nd rfl (Or.inl rfl) pe_int)
      (pss_cons (ps_while PassesOwn.never (pt_cmpR op_lt (pv 5) (pe_callB call_len_seq (by rfl) T.n_len PySem.boot_len (pa_cons (pv 4) pa_nil)) (nomark _)) (pss_cons (ps_set (i := 6) sc_first_parting.nd rfl (Or.inl rfl) (pe_ix (r := rIx K) ix_seq (pv 4) (pv 5) (fun _ _ => rfl)))
          (pss_cons (ps_aug (i := 5) sc_first_parting.nd rfl (Or.inl rfl) pe_int ip_add)
          (pss_cons (ps_if (pt_cmpR op_ne (pe_ix (r := rIx K) ix_seq (pe_ix (r := rIx K) ix_seq (pv 0) pe_int (fun _ _ => rfl)) (pe_ix (r := rIx K) ix_seq (pv 6) pe_int (fun _ _ => rfl)) (fun _ _ => rfl)) (pe_ix (r := rIx K) ix_seq (pe_ix (r := rIx K) ix_seq (pv 1) pe_int (fun _ _ => rfl)) (pe_ix (r := rIx K) ix_seq (pv 6) pe_int (fun _ _ => rfl)) (fun _ _ => rfl)) (nomark _)) (pss_one (ps_ret (pe_dget (hu_of hr) (pv 3) (pv 6) (fun _ _ => rfl)))) pss_nil)
          (pss_one (ps_for PassesOwn.never rfl (pi_range1 (by rfl) T.n_range (pa_cons (pe_ix (r := rIx K) ix_seq (pv 0) pe_int (fun _ _ => rfl)) pa_nil)) (pg_name (i := 7) sc_first_parting.nd rfl (Or.inl rfl))
            (pss_cons (ps_set (i := 8) sc_first_parting.nd rfl (Or.inl rfl) (pe_tup (pa_cons (pe_ix (r := rIx K) ix_seq (pe_ix (r := rIx K) ix_seq (pe_ix (r := rIx K) ix_seq (pv 0) pe_int (fun _ _ => rfl)) (pe_ix (r := rIx K) ix_seq (pv 6) pe_int (fun _ _ => rfl)) (fun _ _ => rfl)) (pv 7) (fun _ _ => rfl)) (pa_cons (pe_ix (r := rIx K) ix_seq (pe_ix (r := rIx K) ix_seq (pe_ix (r := rIx K) ix_seq (pv 1) pe_int (fun _ _ => rfl)) (pe_ix (r := rIx K) ix_seq (pv 6) pe_int (fun _ _ => rfl)) (fun _ _ => rfl)) (pv 7) (fun _ _ => rfl)) pa_nil))))
              (pss_one (ps_if (pt_cmp (pc_dnotin (hu_of hr) (pv 8) (pv 3))) (pss_cons (ps_dput (hu_of hr) (pv 3) (pv 8) (pe_op op_cat (pe_dget (hu_of hr) (pv 3) (pv 6) (fun _ _ => rfl)) (pe_lst (pa_cons (pv 7) pa_nil))) rfl)
                  (pss_one (ps_expr (pe_bm PySem.F.plainAttrs_list PySem.F.slot_list_append PySem.F.type_list_append mt_append (pv 4) (pa_cons (pv 8) pa_nil))))) pss_nil)))))))))
      (pss_one (ps_ret pe_non)))))), ?_⟩
    intro d hd
    have td : t ≠ d := ne_some hd ht
    refine ⟨_, rfl, Nat.zero_le _, fun w0 hw0 => ?_⟩
    have s1 := same_upd (o := .dT []) (Same.refl H) hd
    have wd : w0 ≠ d := fun z => by
      rw [z, upd_same] at hw0
      cases hw0
    have s2' := same_upd (o := .lst []) s1 hw0
    refine ⟨t, kP p, rfl, s2' _ _ ht, (by rw [upd_ne wd.symm]; exact upd_same), ?_⟩
    have s3 : Same H (upd (upd (upd H d (.dT [])) w0 (.lst [])) d (.dT [(kP p, .ref w0)])) := same_set s2' hd
    refine ⟨_, rfl, (by show 1 ≤ sizeLine; decide), fun qa hqa => ?_⟩
    have s4 := same_upd (o := .lst [.ref t]) s3 hqa
    have qd : qa ≠ d := fun z => by
      rw [z, upd_same] at hqa
      cases hqa
    have qw : qa ≠ w0 := fun z => by
      rw [z, upd_ne wd, upd_same] at hqa
      cases hqa
    have B0 : HB H (upd (upd (upd (upd H d (.dT [])) w0 (.lst [])) d (.dT [(kP p, .ref w0)])) qa (.lst [.ref t])) d qa [⟨p, [], t, w0⟩] :=
      ⟨s4, hd, s3.free hqa, by rw [upd_ne qd.symm, upd_same]; rfl, upd_same, fun n hn => by rw [List.mem_singleton.mp hn]; exact s4 _ _ ht,
        fun n hn => by rw [List.mem_singleton.mp hn]; exact ⟨by rw [upd_ne qw.symm, upd_ne wd, upd_same]; rfl, qw.symm⟩, fun n hn => by rw [List.mem_singleton.mp hn]; exact s1.free hw0⟩
    have l4 := k.gm.l4
    have l1 := k.gm.l1
    refine ⟨fun m σ H' => ∃ (L : List Nd) (pl : Nat) (v6 v7 v8 : Option V), m = 1000 - pl ∧ σ = [some (.ref f), some (.ref s2), some (.ref t), some (.ref d), some (.ref qa), some (.int pl), v6, v7, v8] ∧ HB H H' d qa L ∧ Bfs M N p L pl 0 ∧ pl ≤ L.length,
      ⟨_, _, 0, none, none, none, rfl, rfl, B0, Bfs.start k hp, Nat.zero_le _⟩, ?_⟩
    rintro m σ H1 ⟨L, pl, v6, v7, v8, rfl, rfl, B, S, ple⟩
    have few := S.few k
    refine ⟨_, rfl, _, rfl, qa, _, rfl, .inl (SqL.of B.qq), ?_⟩
    rw [List.length_map]
    refine ⟨_, _, rfl, rfl, _, rfl, ?_⟩
    refine ite2 (fun c => ?_) (fun c => ?_)
    · have c : pl < L.length := by simpa using c
      have hx := List.getElem?_eq_getElem c
      generalize L[pl] = x at hx
      have hxL := S.here hx
      have hM1 := hM.same B.same
      have hN1 := hN.same B.same
      obtain ⟨i1, i2, i3⟩ := S.run x hxL
      refine ⟨fun σ' H' => ∃ (L : List Nd) (v6 v7 v8 : Option V), σ' = [some (.ref f), some (.ref s2), some (.ref t), some (.ref d), some (.ref qa), some (.int ((pl + 1 : Nat) : Int)), v6, v7, v8] ∧ HB H H' d qa L ∧ Bfs M N p L (pl + 1) 0 ∧ pl + 1 ≤ L.length,
        fun σ' H' ⟨L', v6, v7, v8, e1, e2, e3, e4⟩ => ⟨1000 - (pl + 1), by omega, L', pl + 1, v6, v7, v8, rfl, e1, e2, e3, e4⟩, ?_⟩
      refine ⟨_, rfl, _, rfl, .inl ⟨qa, _, _, _, rfl, rfl, SqL.of B.qq, atI_get? (f := fun n : Nd => V.ref n.ta) (by omega) (by rw [show ((pl : Int)).toNat = pl by omega]; exact hx), ?_⟩⟩
      refine ⟨_, rfl, _, _, rfl, rfl, ?_⟩
      -- the outputs
      have tp := B.tp x hxL
      have p0 : ∀ {Q : VK} {H' : Hp}, H' x.ta = some (.tup [.int x.pr.1, .int x.pr.2]) → Q (.int x.pr.1) H' → rIx K (.ref x.ta) (.int 0) H' Q := fun {Q H'} e q => .inr (.inl ⟨x.ta, _, 0, _, rfl, rfl, SqT.of e, rfl, q⟩)
      have p1 : ∀ {Q : VK} {H' : Hp}, H' x.ta = some (.tup [.int x.pr.1, .int x.pr.2]) → Q (.int x.pr.2) H' → rIx K (.ref x.ta) (.int 1) H' Q := fun {Q H'} e q => .inr (.inl ⟨x.ta, _, 1, _, rfl, rfl, SqT.of e, rfl, q⟩)
      refine ⟨_, rfl, .inr (.inl ⟨f, _, 3, .ref ou, rfl, rfl, SqT.of hM1.top, rfl, _, rfl, p0 tp ?_⟩)⟩
      refine .inr (.inl ⟨ou, _, _, _, rfl, rfl, SqT.of hM1.ou, atI_get? i3.1.1 (k.gm.outp i3.1).1, ?_⟩)
      refine ⟨_, rfl, .inr (.inl ⟨s2, _, 3, .ref ou2, rfl, rfl, SqT.of hN1.top, rfl, _, rfl, p1 tp ?_⟩)⟩
      refine .inr (.inl ⟨ou2, _, _, _, rfl, rfl, SqT.of hN1.ou, atI_get? i3.2.1 (k.gn.outp i3.2).1, ?_⟩)
      refine ⟨rfl, _, rfl, ?_⟩
      have self : ∀ {L : List Nd} {pl a : Nat}, Bfs M N p L pl a → x ∈ L → valV (dictOf L) (kP x.pr) = some (.ref x.wa) := fun {L pl a} S hL => by
        rcases val_find x.pr L with ⟨y, hy, e, q⟩ | ⟨_, q⟩
        · rw [q, nodup_inj S.nod hy hL e]
        · exact absurd rfl (q x hL)
      refine ite2 (fun bad => ?_) (fun bad => ?_)
      · have bad : Bad M N x.pr := fun z => by
          unfold Mach.out at z
          simp at bad
          exact bad z
        refine ⟨_, rfl, _, rfl, d, .ref x.wa, rfl, (by rw [← self S hxL]; exact DGet.t B.dd tp), ?_⟩
        exact (fin H1 B.same).1 x.wd x.wa (S.found k hx bad) (B.wf x hxL) (B.wl x hxL).1
      have good : ¬ Bad M N x.pr := fun z => z (by
        simp at bad
        exact bad)
      refine ⟨_, rfl, .inr (.inl ⟨f, _, 0, .int M.ls, rfl, rfl, SqT.of hM1.top, rfl, M.ls, rfl, by omega, by omega, ?_⟩)⟩
      refine for_range (fun a σ H' => ∃ (L : List Nd) (v7 v8 : Option V), σ = [some (.ref f), some (.ref s2), some (.ref t), some (.ref d), some (.ref qa), some (.int ((pl : Int) + 1)), some (.ref x.ta), v7, v8] ∧ HB H H' d qa L ∧ Bfs M N p L pl a ∧ L[pl]? = some x)
        ⟨L, v7, v8, rfl, B, S, hx⟩ ?_ ?_
      · clear B S hxL c few hM1 hN1 tp hx ple
        rintro a σ H2 ha ⟨L, v7, v8, rfl, B, S, hx⟩
        have hxL := S.here hx
        have few := S.few k
        have hM1 := hM.same B.same
        have hN1 := hN.same B.same
        have tp := B.tp x hxL
        have a1 : (a : Int) < M.ls := by omega
        obtain ⟨_, w1, g1, g2⟩ := k.gm.step i3.1 (show (0 : Int) ≤ a by omega) a1
        obtain ⟨_, w2, g3, g4⟩ := k.gn.step i3.2 (show (0 : Int) ≤ a by omega) (by rw [← k.ls]; exact a1)
        obtain ⟨r1, f1, f2⟩ := hM1.rowAt i3.1.1 g1
        obtain ⟨r2, f3, f4⟩ := hN1.rowAt i3.2.1 g3
        rw [show (0 : Int) + (a : Int) = (a : Int) by omega]
        refine ⟨_, rfl, .inr (.inl ⟨f, _, 2, .ref mv, rfl, rfl, SqT.of hM1.top, rfl, _, rfl, p0 tp ?_⟩)⟩
        refine .inr (.inl ⟨mv, _, _, _, rfl, rfl, SqT.of hM1.mv, f1, _, rfl, ?_⟩)
        refine .inr (.inl ⟨r1, _, _, _, rfl, rfl, SqT.of f2, atI_get? (by omega) g2, ?_⟩)
        refine ⟨_, rfl, .inr (.inl ⟨s2, _, 2, .ref mv2, rfl, rfl, SqT.of hN1.top, rfl, _, rfl, p1 tp ?_⟩)⟩
        refine .inr (.inl ⟨mv2, _, _, _, rfl, rfl, SqT.of hN1.mv, f3, _, rfl, ?_⟩)
        refine .inr (.inl ⟨r2, _, _, _, rfl, rfl, SqT.of f4, atI_get? (by omega) g4, ?_⟩)
        refine ⟨(by show 2 ≤ sizeLine; decide), fun ta hta => ?_⟩
        have Ba := B.new hta (.tup [.int (M.next x.pr.1 a), .int (N.next x.pr.2 a)])
        have eta : (upd H2 ta (.tup [.int (M.next x.pr.1 a), .int (N.next x.pr.2 a)])) ta = some (.tup [.int (stepP M N x.pr a).1, .int (stepP M N x.pr a).2]) := upd_same
        have tp2 := Ba.tp x hxL
        generalize upd H2 ta (.tup [.int (M.next x.pr.1 a), .int (N.next x.pr.2 a)]) = H3 at *
        refine ⟨_, rfl, _, rfl, d, _, rfl, DGet.t (k := kP (stepP M N x.pr a)) Ba.dd eta, ?_⟩
        rcases val_find (stepP M N x.pr a) L with ⟨y, hy, e, q⟩ | ⟨q, new⟩
        · rw [q]
          exact ⟨_, rfl, L, _, _, rfl, Ba, S.old k hx good a1 hy e, hx⟩
        · rw [q]
          refine ⟨_, rfl, ?_⟩
          have dwa := self S hxL
          refine ⟨_, rfl, _, rfl, d, .ref x.wa, rfl, (by rw [← dwa]; exact DGet.t Ba.dd tp2), ?_⟩
          refine ⟨_, rfl, (by show 1 ≤ sizeLine; decide), fun q1 hq1 => ?_⟩
          have Bb := Ba.new hq1 (.lst [.int (a : Int)])
          have lenw := S.len x hxL
          refine ⟨x.wa, q1, _, _, rfl, rfl, (Bb.wl x hxL).1, upd_same, ?_, fun wn hwn => ?_⟩
          · rw [List.length_map]
            exact Nat.le_of_lt (Nat.lt_of_le_of_lt (by show x.wd.length + 1 ≤ 1000; omega) (by decide))
          have Bc := Bb.new hwn (.lst (x.wd.map V.int ++ [.int (a : Int)]))
          have s34 : Same H3 (upd (upd H3 q1 (.lst [.int (a : Int)])) wn (.lst (x.wd.map V.int ++ [.int (a : Int)]))) := same_upd (same_upd (Same.refl _) hq1) hwn
          have eta2 := s34 _ _ eta
          have ewn : (upd (upd H3 q1 (.lst [.int (a : Int)])) wn (.lst (x.wd.map V.int ++ [.int (a : Int)]))) wn = some (.lst ((x.wd ++ [(a : Int)]).map V.int)) := by
            rw [upd_same, List.map_append]
            rfl
          have nq : wn ≠ qa := (ne_some hwn Bb.qq).symm
          have nf : H wn = none := Bb.same.free hwn
          generalize upd (upd H3 q1 (.lst [.int (a : Int)])) wn (.lst (x.wd.map V.int ++ [.int (a : Int)])) = H4 at *
          refine ⟨_, rfl, _, rfl, d, _, rfl, DPut.t (k := kP (stepP M N x.pr a)) Bc.dd eta2 ?_, ?_⟩
          · unfold dictOf
            rw [List.length_map]
            exact Nat.lt_of_le_of_lt few (by decide)
          rw [putK_new _ q]
          have dq : qa ≠ d := fun z => by
            have h1 := Bc.dd
            rw [← z, Bc.qq] at h1
            cases h1
          have eq5 : (upd H4 d (.dT (dictOf L ++ [(kP (stepP M N x.pr a), V.ref wn)]))) qa = some (.lst (L.map fun n => V.ref n.ta)) := by
            rw [upd_ne dq]
            exact Bc.qq
          refine ⟨_, rfl, .inl ⟨rfl, _, SqL.of eq5⟩, _, rfl, qa, _, _, rfl, rfl, eq5, ?_, ?_⟩
          · rw [List.length_map]
            exact Nat.lt_of_le_of_lt few (by decide)
          exact ⟨_, _, _, rfl, Bc.push (n := ⟨stepP M N x.pr a, x.wd ++ [(a : Int)], ta, wn⟩) eta2 ewn nq nf, S.push k hx good a1 new, get_app1 hx⟩
      · rintro σ H2 ⟨L, v7, v8, rfl, B, S, hx⟩
        have lt := (List.getElem?_eq_some_iff.mp hx).1
        refine ⟨L, _, v7, v8, rfl, B, S.next k (by omega), lt⟩
    · have e : pl = L.length := by simp at c; omega
      subst e
      exact (fin H1 B.same).2 (S.none k)
end
end K25

set_option Elab.async false
set_option linter.all false
set_option maxRecDepth 100000
set_option maxHeartbeats 4000000
/-! parting words: their length; least machines and differences -/
namespace Mz
open PySem PySem.Spec PyProof.Rows L2
section
variable {M N : Mach} {G F : List Int}
theorem nopart_sim : NoPart M N (0, 0) ↔ Sim M N 0 0 := by
  constructor
  · intro h v hv
    have := h v hv
    unfold Bad at this
    rw [runP_pair] at this
    exact Classical.not_not.mp this
  · intro h v hv b
    unfold Bad at b
    rw [runP_pair] at b
    exact b (h v hv)
theorem part_isd (k : Kin M N) {p : Pr} {u : List Int} (h : Part M N p u) : IsD M N u.length p :=
  ⟨⟨u, h.lt, Nat.le_refl _, h.bad⟩, fun e he ⟨v, hv, le, b⟩ => by
    have h1 := h.min v hv b
    have h2 := code_short k.gm.l4 (u := v) (v := u) hv (by omega)
    omega⟩
theorem part_both (k : Kin M N) {p : Pr} (hp : InP M N p) {u : List Int} (h : Part M N p u) : u.length + 2 ≤ M.rows.length + N.rows.length := few_rounds k hp (part_isd k h)
/-- within one machine a parting word has fewer letters than there are states -/
theorem part_short (g : Good M) {p : Pr} (hp : InP M M p) {u : List Int} (h : Part M M p u) : u.length + 1 ≤ M.rows.length := by
  have k : Kin M M := ⟨g, g, rfl⟩
  have n1 := g.s1
  refine fine_few (n := M.rows.length) (d := u.length) (R := RM M) (by omega) (eqv_RM M M.rows.length) (fun t x y h v a b => h v a (by omega)) (fun e he => ?_)
  obtain ⟨q, hq, ⟨⟨v, hv, lv, bv⟩, no⟩⟩ := isd_all k hp (part_isd k h) (e + 1) he
  have q1 := hq.1
  have q2 := hq.2
  have a1 := q1.1
  have a2 := q1.2
  have b1 := q2.1
  have b2 := q2.2
  refine ⟨q.1.toNat, q.2.toNat, by omega, by omega, fun w hw lw => ?_, fun z => ?_⟩
  · rw [show ((q.1.toNat : Nat) : Int) = q.1 by omega, show ((q.2.toNat : Nat) : Int) = q.2 by omega]
    refine Classical.byContradiction fun n => no e (by omega) ⟨w, hw, lw, ?_⟩
    unfold Bad
    rw [runP_pair]
    exact n
  · have := z v hv lv
    rw [show ((q.1.toNat : Nat) : Int) = q.1 by omega, show ((q.2.toNat : Nat) : Int) = q.2 by omega] at this
    unfold Bad at bv
    rw [runP_pair] at bv
    exact bv this
/-- two states of a least machine are parted -/
theorem least_parts (g : Good M) (r : Rep (EqM M) M.rows.length G) {i j : Int} (hi : (leastBy M G (ordAt M G M.rows.length)).St i) (hj : (leastBy M G (ordAt M G M.rows.length)).St j) (ne : i ≠ j) :
    ∃ u, Part (leastBy M G (ordAt M G M.rows.length)) (leastBy M G (ordAt M G M.rows.length)) (i, j) u := by
  rcases part_or (M := leastBy M G (ordAt M G M.rows.length)) (N := leastBy M G (ordAt M G M.rows.length)) (p := (i, j)) with h | h
  · exact h
  · exfalso
    have i0 := hi.1
    have i1 := hi.2
    have j0 := hj.1
    have j1 := hj.2
    rw [leastBy_len] at i1 j1
    obtain ⟨nod, rps⟩ := ord_ok g r M.rows.length
    have ei := List.getElem?_eq_getElem (show i.toNat < (ordAt M G M.rows.length).length by omega)
    have ej := List.getElem?_eq_getElem (show j.toNat < (ordAt M G M.rows.length).length by omega)
    have ri := rps _ (List.mem_of_getElem? ei)
    have rj := rps _ (List.mem_of_getElem? ej)
    have s : Sim M M (ordAt M G M.rows.length)[i.toNat] (ordAt M G M.rows.length)[j.toNat] := fun v hv => by
      rw [leastBy_walk g r v _ _ i.toNat hv ri.1 ri.2 ei, leastBy_walk g r v _ _ j.toNat hv rj.1 rj.2 ej]
      have b := h v hv
      unfold Bad at b
      rw [runP_pair] at b
      have b := Classical.not_not.mp b
      rw [show ((i.toNat : Nat) : Int) = i by omega, show ((j.toNat : Nat) : Int) = j by omega]
      exact b
    have e := rp_uniq g r ri rj s
    have := (List.getElem?_inj (show i.toNat < (ordAt M G M.rows.length).length by omega) nod).mp (ei.trans (by rw [e]; exact ej.symm))
    omega
/-- the same words part machines that answer alike -/
theorem part_move {M' N' : Mach} (ls : M'.ls = M.ls) (ls2 : N'.ls = N.ls) (k : Kin M N) (s : Sim M M' 0 0) (t : Sim N N' 0 0) {u : List Int} (h : Part M N (0, 0) u) : Part M' N' (0, 0) u := by
  have e : ∀ v, Lt M.ls v → (Bad M N (runP M N (0, 0) v) ↔ Bad M' N' (runP M' N' (0, 0) v)) := fun v hv => by
    unfold Bad
    rw [runP_pair, runP_pair]
    show M.out (M.run 0 v) ≠ N.out (N.run 0 v) ↔ M'.out (M'.run 0 v) ≠ N'.out (N'.run 0 v)
    rw [s v hv, t v (by rw [← k.ls]; exact hv)]
  exact ⟨by rw [ls]; exact h.lt, (e u h.lt).mp h.bad, fun v hv b => h.min v (by rw [← ls]; exact hv) ((e v (by rw [← ls]; exact hv)).mpr b)⟩
end
/-! ### == of machines, both ways -/
theorem eqv_rows : ∀ rs qs : List (List Int), PyData.eqvAll (rs.map dRow) (qs.map dRow) = decide (rs = qs)
  | [], [] => by simp [PyData.eqvAll]
  | [], _ :: _ => by simp [PyData.eqvAll]
  | _ :: _, [] => by simp [PyData.eqvAll]
  | r :: rs, q :: qs => by
    have e : PyData.eqv (dRow r) (dRow q) = decide (r = q) := by
      unfold dRow
      rw [PyData.eqv, eqv_ints]
    rw [List.map_cons, List.map_cons, PyData.eqvAll, eqv_rows rs qs, e]
    by_cases h : r = q
    · subst h
      by_cases h2 : rs = qs <;> simp [h2]
    · simp [h]
theorem eqv_mach (A B : Mach) : (PyData.eqv (dMach A) (dMach B) = true) ↔ A = B := by
  constructor
  · intro h
    unfold dMach at h
    rw [PyData.eqv, PyData.eqvAll, PyData.eqvAll, PyData.eqvAll, PyData.eqvAll, PyData.eqvAll] at h
    simp only [Bool.and_eq_true] at h
    obtain ⟨h1, h2, h3, h4, _⟩ := h
    have e1 : A.ls = B.ls := by simpa [PyData.eqv] using h1
    have e2 : A.os = B.os := by simpa [PyData.eqv] using h2
    have e3 : A.rows = B.rows := by
      rw [PyData.eqv, eqv_rows] at h3
      exact of_decide_eq_true h3
    have e4 : A.outs = B.outs := by
      unfold dRow at h4
      rw [PyData.eqv, eqv_ints] at h4
      exact of_decide_eq_true h4
    cases A
    cases B
    simp at e1 e2 e3 e4
    subst e1 e2 e3 e4
    rfl
  · intro h
    rw [h]
    exact SeqAt.eqv_refl _ (lay_mach B)
section
variable {K : PySem.W.Frag} {H : Hp} {a b : Addr} {A B : Mach} {Q : VK}
theorem eq_machB (h1 : MA H a A) (h2 : MA H b B) (q : ∀ c : Bool, (c = true ↔ A = B) → Q (.bl c) H) : rEqD K (.ref a) (.ref b) H Q :=
  ⟨_, _, dp_mach h1, dp_mach h2, shaped_mach A, shaped_mach B, q _ (eqv_mach A B)⟩
end
end Mz

set_option Elab.async false
set_option linter.all false
set_option maxRecDepth 100000
set_option maxHeartbeats 4000000
/-! the outputs along a word; words that tell states from each other -/
namespace Mz
open PySem PySem.Spec PyProof.Rows L2
def outsTo (M : Mach) (s : Int) (w : List Int) (j : Nat) : List Int := (List.range (j + 1)).map fun i => M.out (M.run s (w.take i))
def outsA (M : Mach) (s : Int) (w : List Int) : List Int := outsTo M s w w.length
theorem outsTo_succ {M : Mach} {s : Int} {w : List Int} {j : Nat} : outsTo M s w (j + 1) = outsTo M s w j ++ [M.out (M.run s (w.take (j + 1)))] := by
  unfold outsTo
  rw [List.range_succ, List.map_append]
  rfl
theorem outs_pre (M : Mach) (s : Int) (w u : List Int) : outsA M s w = (outsA M s (w ++ u)).take (w.length + 1) := by
  unfold outsA outsTo
  rw [← List.map_take, List.take_range, List.length_append]
  rw [show min (w.length + 1) (w.length + u.length + 1) = w.length + 1 by omega]
  refine List.map_congr_left fun i hi => ?_
  have := List.mem_range.mp hi
  rw [List.take_append_of_le_length (by omega)]
theorem outs_last (M : Mach) (s : Int) (w : List Int) : (outsA M s w)[w.length]? = some (M.out (M.run s w)) := by
  unfold outsA outsTo
  rw [List.getElem?_map, List.getElem?_range (by omega)]
  show some (M.out (M.run s (w.take w.length))) = _
  rw [List.take_length]
theorem outs_len (M : Mach) (s : Int) (w : List Int) : (outsA M s w).length = w.length + 1 := by
  unfold outsA outsTo
  rw [List.length_map, List.length_range]
theorem run_app (M : Mach) (s : Int) (w u : List Int) : M.run s (w ++ u) = M.run (M.run s w) u := by
  unfold Mach.run
  rw [List.foldl_append]
theorem outs_nil {M : Mach} {s : Int} : outsA M s [] = [M.out s] := rfl
theorem outs_at {M : Mach} {s : Int} {w : List Int} {i : Nat} (h : i ≤ w.length) : (outsA M s w)[i]? = some (M.out (M.run s (w.take i))) := by
  unfold outsA outsTo
  rw [List.getElem?_map, List.getElem?_range (by omega)]
  rfl
/-- the same outputs along: the same output behind each beginning -/
theorem outs_eq {M N : Mach} {s t : Int} {w : List Int} : outsA M s w = outsA N t w ↔ ∀ i, i ≤ w.length → M.out (M.run s (w.take i)) = N.out (N.run t (w.take i)) := by
  constructor
  · intro h i hi
    have h1 := outs_at (M := M) (s := s) hi
    rw [h, outs_at hi] at h1
    exact (Option.some.inj h1).symm
  · intro h
    unfold outsA outsTo
    refine List.map_congr_left fun i hi => h i ?_
    have := List.mem_range.mp hi
    omega
theorem part_outs {M : Mach} {s t : Int} {u : List Int} (p : Part M M (s, t) u) : outsA M s u ≠ outsA M t u := fun e => by
  have h := outs_eq.mp e u.length (Nat.le_refl _)
  rw [List.take_length] at h
  have b := p.bad
  unfold Bad at b
  rw [runP_pair] at b
  exact b h
/-- alike along all words of a list -/
def AL (M : Mach) (ws : List (List Int)) (s t : Nat) : Prop := ∀ w ∈ ws, outsA M s w = outsA M t w
theorem eqv_AL (M : Mach) (n : Nat) (ws : List (List Int)) : Eqv n (AL M ws) := ⟨fun x w _ => rfl, fun x y h w hw => (h w hw).symm, fun x y z h1 h2 w hw => (h1 w hw).trans (h2 w hw)⟩
theorem AL_snoc {M : Mach} {ws : List (List Int)} {u : List Int} {s t : Nat} : AL M (ws ++ [u]) s t ↔ AL M ws s t ∧ outsA M s u = outsA M t u := by
  constructor
  · intro h
    exact ⟨fun w hw => h w (List.mem_append_left _ hw), h u (List.mem_append_right _ List.mem_cons_self)⟩
  · rintro ⟨h1, h2⟩ w hw
    rcases List.mem_append.mp hw with z | z
    · exact h1 w z
    · rw [List.mem_singleton.mp z]
      exact h2
/-- one letter less than the states: the empty word parts two kinds already -/
theorem part_short2 {M : Mach} (g : Good M) {p : Pr} (hp : InP M M p) {u : List Int} (h : Part M M p u) : u.length + 2 ≤ M.rows.length := by
  have k : Kin M M := ⟨g, g, rfl⟩
  have n1 := g.s1
  refine fine_few (n := M.rows.length) (d := u.length + 1) (R := fun t i j => ∀ v, Lt M.ls v → v.length < t → M.out (M.run i v) = M.out (M.run j v)) (by omega) (fun t => ⟨fun x v _ _ => rfl, fun x y h v a b => (h v a b).symm, fun x y z h1 h2 v a b => (h1 v a b).trans (h2 v a b)⟩) (fun t x y h v a b => h v a (by omega)) (fun e he => ?_)
  obtain ⟨q, hq, ⟨⟨v, hv, lv, bv⟩, no⟩⟩ := isd_all k hp (part_isd k h) e (by omega)
  have q1 := hq.1
  have q2 := hq.2
  have a1 := q1.1
  have a2 := q1.2
  have b1 := q2.1
  have b2 := q2.2
  refine ⟨q.1.toNat, q.2.toNat, by omega, by omega, fun w hw lw => ?_, fun z => ?_⟩
  · rw [show ((q.1.toNat : Nat) : Int) = q.1 by omega, show ((q.2.toNat : Nat) : Int) = q.2 by omega]
    refine Classical.byContradiction fun n => no w.length lw ⟨w, hw, Nat.le_refl _, ?_⟩
    unfold Bad
    rw [runP_pair]
    exact n
  · have := z v hv (by omega)
    rw [show ((q.1.toNat : Nat) : Int) = q.1 by omega, show ((q.2.toNat : Nat) : Int) = q.2 by omega] at this
    unfold Bad at bv
    rw [runP_pair] at bv
    exact bv this
/-- words so far, and the classes that they tell -/
structure Tells (L : Mach) (ws : List (List Int)) (G : List Int) : Prop where
  nil : [] ∈ ws
  ok : ∀ w ∈ ws, Lt L.ls w ∧ (w = [] ∨ w.length + 2 ≤ L.rows.length)
  nd : ws.Nodup
  rep : Rep (AL L ws) L.rows.length G
  few : ws.length = 1 ∨ ws.length + 1 ≤ cnt L.rows.length (AL L ws)
theorem Tells.cnt2 {L : Mach} {ws : List (List Int)} {G : List Int} (t : Tells L ws G) (g : Good L) {p : Pr} (hp : InP L L p) {u : List Int} (h : Part L L p u) : 2 ≤ cnt L.rows.length (AL L ws) := by
  have n1 := g.s1
  have e1 := cnt_pos (n := L.rows.length) (fun _ _ => True) (by omega)
  have s1 := g.runs hp.1 h.lt
  have s2 := g.runs hp.2 h.lt
  have e2 := cnt_lt (n := L.rows.length) (R := fun _ _ => True) (S := AL L ws) ⟨fun _ => trivial, fun _ _ _ => trivial, fun _ _ _ _ _ => trivial⟩ (eqv_AL L _ ws) (fun _ _ _ => trivial)
    ⟨(L.run p.1 u).toNat, (L.run p.2 u).toNat, by have := s1.1; have := s1.2; omega, by have := s2.1; have := s2.2; omega, trivial, fun z => ?_⟩
  · omega
  · have := z [] t.nil
    rw [outs_nil, outs_nil, show (((L.run p.1 u).toNat : Nat) : Int) = L.run p.1 u by have := s1.1; omega, show (((L.run p.2 u).toNat : Nat) : Int) = L.run p.2 u by have := s2.1; omega] at this
    injection this with this
    have b := h.bad
    unfold Bad at b
    rw [runP_pair] at b
    exact b this
theorem Tells.step {L : Mach} {ws : List (List Int)} {G G' : List Int} (t : Tells L ws G) (g : Good L) {i j : Nat} (hi : i < L.rows.length) (hj : j < L.rows.length) (al : AL L ws i j) {u : List Int} (h : Part L L ((i : Int), (j : Int)) u) (r : Rep (AL L (ws ++ [u])) L.rows.length G') : Tells L (ws ++ [u]) G' ∧ cnt L.rows.length (AL L ws) < cnt L.rows.length (AL L (ws ++ [u])) := by
  have ip : InP L L ((i : Int), (j : Int)) := ⟨⟨by show (0 : Int) ≤ i; omega, by show (i : Int) < _; omega⟩, ⟨by show (0 : Int) ≤ j; omega, by show (j : Int) < _; omega⟩⟩
  have ne := part_outs h
  have nin : u ∉ ws := fun z => ne (al u z)
  have c2 := t.cnt2 g ip h
  have lt := cnt_lt (n := L.rows.length) (eqv_AL L _ ws) (eqv_AL L _ (ws ++ [u])) (fun x y z => (AL_snoc.mp z).1) ⟨i, j, hi, hj, al, fun z => ne (AL_snoc.mp z).2⟩
  refine ⟨⟨List.mem_append_left _ t.nil, fun w hw => ?_, ?_, r, .inr ?_⟩, lt⟩
  · rcases List.mem_append.mp hw with z | z
    · exact t.ok w z
    · rw [List.mem_singleton.mp z]
      exact ⟨h.lt, .inr (part_short2 g ip h)⟩
  · rw [List.nodup_append]
    refine ⟨t.nd, by simp, fun a ha b hb => ?_⟩
    rw [List.mem_singleton.mp hb]
    exact fun z => nin (z ▸ ha)
  · rw [List.length_append]
    show ws.length + 1 + 1 ≤ _
    rcases t.few with z | z <;> omega
/-- how many words, at the end -/
theorem Tells.many {L : Mach} {ws : List (List Int)} {G : List Int} (t : Tells L ws G) : 1 ≤ ws.length ∧ ws.length ≤ max 1 (L.rows.length - 1) := by
  have := cnt_le L.rows.length (AL L ws)
  have h : 0 < ws.length := List.length_pos_of_mem t.nil
  rcases t.few with z | z <;> omega
end Mz

set_option Elab.async false
set_option linter.all false
set_option maxRecDepth 100000
set_option maxHeartbeats 4000000
namespace K25
open PySem PySem.Spec PyProof.Rows L2 Mz
theorem iteT0' {A B : Prop} (h : B) : if (!true) = true then A else B := by
  exact h
def spPartW (A : Ads) : Sp := fun vs H Q E => ∃ (f : Addr) (M : Mach) (i j : Int), vs = [.ref f, .int i, .int j] ∧ MA H f M ∧ Good M ∧
  (InP M M (i, j) → ∀ H', Same H H' → (∀ (u : List Int) (r : Addr), Part M M (i, j) u → H r = none → H' r = some (.lst (u.map V.int)) → Q (.ref r) H') ∧ (NoPart M M (i, j) → E (.ref A.a_Alike) none H')) ∧ (¬ InP M M (i, j) → E (.ref A.a_NotAllowed) none H)
def spAlong : Sp := fun vs H Q _ => ∃ (m wp : Addr) (M : Mach) (s : Int) (w : List Int), vs = [.ref m, .int s, .ref wp] ∧ MA H m M ∧ Good M ∧ M.St s ∧ H wp = some (.lst (w.map V.int)) ∧ Lt M.ls w ∧ w.length ≤ 1000 ∧ ∀ H' p, Same H H' → H p = none → H' p = some (.lst ((outsA M s w).map V.int)) → Q (.ref p) H'
def spFrom (K : PySem.W.Frag) : Sp := fun vs H Q _ => ∃ (m a : Addr) (M : Mach) (s : Int) (ns : List Int), vs = [.ref m, .int s, .ref a] ∧ MA H m M ∧ Good M ∧ M.St s ∧ SqL K H a (ns.map V.int) ∧ Lt M.ls ns ∧ ns.length ≤ 1000 ∧
  ∀ p, H p = none → Q (.ref p) (upd H p (.lst ((outsA M s ns).map V.int)))
theorem from_more {M : Mach} {s0 : Int} {ns : List Int} {i : Nat} : (List.range (i + 1 + 1)).map (fun j => M.out (M.run s0 (ns.take j))) = (List.range (i + 1)).map (fun j => M.out (M.run s0 (ns.take j))) ++ [M.out (M.run s0 (ns.take (i + 1)))] := by
  rw [List.range_succ, List.map_append]
  rfl
section
variable {P : Program} {w : World} {K : PySem.W.Frag} {mg : Str → Option Value} {base : Heap} {A : Ads} {c Pt : Addr}
theorem ok_partw (T : Txt K mg A) : FnOk P w K mg base (L2N.CX P w) 2 A.a_parting_word A.d_parting_word ["machine", "state", "other"] (spPartW A) := by
  have G_first_parting : FnOk P w K mg base CX0 1 A.a_first_parting A.d_first_parting ["first", "second", "start"] (spParting K) := ok_parting T
  refine okN T.F_parting_word sc_parting_word (fun vs H Q E h => ?_) (fun cdv Ar outer s H vs Q E hr h => ?_)
  · obtain ⟨_, _, _, _, rfl, _⟩ := h
    rfl
  · obtain ⟨f, M, i, j, rfl, hMA, g, y, n⟩ := h
    have hr_first_parting : Room 1 _ := hr
    obtain ⟨mv, ou, rs, hM⟩ := id hMA
    refine ⟨_, (pss_cons (ps_set (i := 3) sc_parting_word.nd rfl (Or.inl rfl) (pe_callB call_len_seq (by rfl) T.n_len PySem.boot_len (pa_cons (pe_ix (r := rIx K) ix_seq (pv 0) pe_int (fun _ _ => rfl)) pa_nil)))
      (pss_cons (ps_if (PW.pt (pw_or (pt_not (pt_chain op_le op_lt pe_int (pv 1) (pv 3))) (pw_or1 (pt_not (pt_chain op_le op_lt pe_int (pv 2) (pv 3)))))) (pss_one (L2N.ps_raise rfl (L2N.takes_of rfl rfl rfl rfl) (pmk_any PySem.F.excBase_ValueError T.x_NotAllowed T.g_NotAllowed T.k_NotAllowed (raises_own T.sb_NotAllowed T.ty_NotAllowed) (by rfl) (pa_cons (pe_joined (.cons pe_str (.cons (pe_fmt (pe_op op_sub (pv 3) pe_int)) .nil))) pa_nil)))) pss_nil)
      (pss_cons (ps_set (i := 4) sc_parting_word.nd rfl (Or.inl rfl) (pe_call G_first_parting hr_first_parting (by rfl) T.g_first_parting T.F_first_parting.kp T.b_first_parting .nil pass0 (pa_cons (pv 0) (pa_cons (pv 0) (pa_cons (pe_tup (pa_cons (pv 1) (pa_cons (pv 2) pa_nil))) pa_nil)))))
      (pss_cons (ps_if (pt_cmpR op_isN (pv 4) pe_non (nomark _)) (pss_one (L2N.ps_raise rfl (L2N.takes_of rfl rfl rfl rfl) (L2N.pmk_own PySem.F.excBase_ValueError T.x_Alike T.g_Alike T.k_Alike (raises_own T.sb_Alike T.ty_Alike) (by rfl)))) pss_nil)
      (pss_one (ps_ret (pv 4))))))), ?_⟩
    have l30 : (rs.map V.ref).length = M.rows.length := by rw [List.length_map, hM.len]
    refine ⟨_, rfl, .inr (.inl ⟨f, _, 2, .ref mv, rfl, rfl, SqT.of hM.top, rfl, mv, _, rfl, .inr (SqT.of hM.mv), ?_⟩)⟩
    rw [l30]
    have g30 := g.s30
    have bad : (¬ (0 ≤ i ∧ i < (M.rows.length : Int)) ∨ ¬ (0 ≤ j ∧ j < (M.rows.length : Int))) → ¬ InP M M (i, j) := fun o z => by
      rcases o with o | o
      · exact o z.1
      · exact o z.2
    have lenI : ((M.rows.length : Int) - 1).natAbs < 2 ^ 64 := by omega
    refine ⟨_, rfl, _, _, rfl, rfl, _, rfl, ?_⟩
    refine ite2 (fun c1 => ?_) (fun c1 => ⟨_, rfl, iteT0 ?_⟩)
    rotate_left
    · exact js_2 (i1 := (M.rows.length : Int) - 1) (fun q => ⟨_, rfl, _, _, rfl, rfl, q⟩) lenI (by decide) fun out => ⟨by show 1 ≤ sizeLine; decide, n (bad (.inl fun z => c1 (decide_eq_true z.1)))⟩
    refine ⟨_, rfl, _, _, rfl, rfl, _, rfl, iteN2 (fun c2 => ?_) (fun c2 => ?_)⟩
    · exact js_2 (i1 := (M.rows.length : Int) - 1) (fun q => ⟨_, rfl, _, _, rfl, rfl, q⟩) lenI (by decide) fun out => ⟨by show 1 ≤ sizeLine; decide, n (bad (.inl fun z => c2 z.2))⟩
    refine ⟨_, rfl, _, _, rfl, rfl, _, rfl, ?_⟩
    refine ite2 (fun c3 => ?_) (fun c3 => ⟨_, rfl, iteT0 ?_⟩)
    rotate_left
    · exact js_2 (i1 := (M.rows.length : Int) - 1) (fun q => ⟨_, rfl, _, _, rfl, rfl, q⟩) lenI (by decide) fun out => ⟨by show 1 ≤ sizeLine; decide, n (bad (.inr fun z => c3 (decide_eq_true z.1)))⟩
    refine ⟨_, rfl, _, _, rfl, rfl, _, rfl, iteN2 (fun c4 => ?_) (fun c4 => ?_)⟩
    · exact js_2 (i1 := (M.rows.length : Int) - 1) (fun q => ⟨_, rfl, _, _, rfl, rfl, q⟩) lenI (by decide) fun out => ⟨by show 1 ≤ sizeLine; decide, n (bad (.inr fun z => c4 z.2))⟩
    have ip : InP M M (i, j) := ⟨⟨of_decide_eq_true c1, c2⟩, ⟨of_decide_eq_true c3, c4⟩⟩
    have k : Kin M M := ⟨g, g, rfl⟩
    refine ⟨_, rfl, _, rfl, _, rfl, _, rfl, (by show 2 ≤ sizeLine; decide), fun t ht => ?_⟩
    have s1 := same_upd (o := .tup [.int i, .int j]) (Same.refl H) ht
    refine ⟨f, f, t, M, M, (i, j), rfl, hMA.same s1, hMA.same s1, k, ip, upd_same, fun H' sm => ⟨fun u r pu fr hr => ?_, fun np => ?_⟩⟩
    · refine ⟨_, rfl, rfl, _, rfl, ?_⟩
      refine ite2 (fun z => by simp at z) (fun _ => ?_)
      exact ⟨_, rfl, (y ip H' (s1.trans sm)).1 u r pu (s1.free fr) hr⟩
    · refine ⟨_, rfl, rfl, _, rfl, ?_⟩
      refine ite2 (fun z => ?_) (fun z => (z (by simp)).elim)
      exact (y ip H' (s1.trans sm)).2 np
theorem ok_from (T : Txt K mg A) : FnOk P w K mg base CX0 1 A.a_outputs_from A.d_outputs_from ["machine", "state", "word"] (spFrom K) := by
  refine T.F_outputs_from.ok sc_outputs_from (fun vs H Q E h => ?_) (fun cdv Ar outer s H vs Q E hr h => ?_)
  · obtain ⟨_, _, _, _, _, rfl, _⟩ := h
    rfl
  · obtain ⟨m, a, M, s0, ns, rfl, ⟨mv, ou, rs, hM1⟩, g, hs, hS1, hL, h400, fin⟩ := h
    refine ⟨_, (pss_cons (ps_set (i := 3) sc_outputs_from.nd rfl (Or.inl rfl) (pe_lst (pa_cons (pe_ix (r := rIx K) ix_seq (pe_ix (r := rIx K) ix_seq (pv 0) pe_int (fun _ _ => rfl)) (pv 1) (fun _ _ => rfl)) pa_nil)))
      (pss_cons (ps_for PassesOwn.never rfl (pi_list (pv 2)) (pg_name (i := 4) sc_outputs_from.nd rfl (Or.inl rfl))
        (pss_cons (ps_set (i := 1) sc_outputs_from.nd rfl (Or.inl rfl) (pe_ix (r := rIx K) ix_seq (pe_ix (r := rIx K) ix_seq (pe_ix (r := rIx K) ix_seq (pv 0) pe_int (fun _ _ => rfl)) (pv 1) (fun _ _ => rfl)) (pv 4) (fun _ _ => rfl)))
          (pss_one (ps_expr (pe_bm PySem.F.plainAttrs_list PySem.F.slot_list_append PySem.F.type_list_append mt_append (pv 3) (pa_cons (pe_ix (r := rIx K) ix_seq (pe_ix (r := rIx K) ix_seq (pv 0) pe_int (fun _ _ => rfl)) (pv 1) (fun _ _ => rfl)) pa_nil))))))
      (pss_one (ps_ret (pv 3))))), ?_⟩
    refine ⟨_, rfl, .inr (.inl ⟨m, _, 3, .ref ou, rfl, rfl, SqT.of hM1.top, rfl, _, rfl, .inr (.inl ⟨ou, _, _, _, rfl, rfl, SqT.of hM1.ou, atI_get? hs.1 (g.outp hs).1, ?_⟩)⟩)⟩
    refine ⟨(by show 1 ≤ sizeLine; decide), fun l hl => ?_⟩
    have sl : ∀ o : HO, Same H (upd H l o) := fun o => same_upd (Same.refl _) hl
    refine ⟨_, rfl, a, rfl, ⟨_, (sl _).seq hS1⟩, for_list (K := K) (a := a) (xs := ns.map V.int) (fun i σ H' => ∃ v : Option V, σ = [some (.ref m), some (.int (M.run s0 (ns.take i))), some (.ref a), some (.ref l), v] ∧
        H' = upd H l (.lst (((List.range (i + 1)).map (fun j => M.out (M.run s0 (ns.take j)))).map V.int)) ∧ M.St (M.run s0 (ns.take i)))
      ⟨none, rfl, rfl, hs⟩ (fun i σ H' _ ⟨_, _, e, _⟩ => by rw [e]; exact (sl _).seq hS1) ?_ ?_⟩
    · rintro i y σ H' hi ⟨v, rfl, rfl, st⟩
      obtain ⟨z, hz, rfl⟩ := ofV hi
      have i400 : i < 1000 := Nat.lt_of_lt_of_le (List.getElem?_eq_some_iff.mp hz).1 h400
      have zl := hL z (List.mem_of_getElem? hz)
      obtain ⟨st2, w1, e1, e2⟩ := g.step st zl.1 zl.2
      have hM2 := hM1.same (sl (.lst (((List.range (i + 1)).map (fun j => M.out (M.run s0 (ns.take j)))).map V.int)))
      obtain ⟨r, f1, f2⟩ := hM2.rowAt st.1 e1
      refine ⟨_, rfl, .inr (.inl ⟨m, _, 2, .ref mv, rfl, rfl, SqT.of hM2.top, rfl, ?_⟩)⟩
      refine ⟨_, rfl, .inr (.inl ⟨mv, _, _, _, rfl, rfl, SqT.of hM2.mv, f1, ?_⟩)⟩
      refine ⟨_, rfl, .inr (.inl ⟨r, _, _, _, rfl, rfl, SqT.of f2, atI_get? zl.1 e2, ?_⟩)⟩
      refine ⟨_, rfl, .inl ⟨rfl, _, SqL.of upd_same⟩, _, rfl, .inr (.inl ⟨m, _, 3, .ref ou, rfl, rfl, SqT.of hM2.top, rfl, ?_⟩)⟩
      refine ⟨_, rfl, .inr (.inl ⟨ou, _, _, _, rfl, rfl, SqT.of hM2.ou, atI_get? st2.1 (g.outp st2).1, ?_⟩)⟩
      refine ⟨l, _, _, rfl, rfl, upd_same, ?_, ?_⟩
      · rw [List.length_map, List.length_map, List.length_range]
        exact Nat.lt_of_le_of_lt (by omega : i + 1 ≤ 1500) (by decide)
      · rw [from_more, take_more hz, run_snoc, List.map_append, upd_upd]
        exact ⟨_, rfl, rfl, st2⟩
    · rintro σ H' ⟨v, rfl, rfl, st⟩
      rw [List.length_map]
      exact ⟨_, rfl, fin l hl⟩
theorem ok_along (T : Txt K mg A) : FnOk P w K mg base CX0 1 A.a_law_along A.d_law_along ["machine", "state", "word"] spAlong := by
  refine T.F_law_along.ok sc_law_along (fun vs H Q E h => ?_) (fun cdv Ar outer s H vs Q E hr h => ?_)
  · obtain ⟨_, _, _, _, _, rfl, _⟩ := h
    rfl
  · obtain ⟨m, wp, M, st, v, rfl, ⟨mv, ou, rs, hM⟩, g, hst, hw, hv, l4, fin⟩ := h
    refine ⟨_, (pss_cons (ps_set (i := 3) sc_law_along.nd rfl (Or.inl rfl) (pe_lst (pa_cons (pe_ix (r := rIx K) ix_seq (pe_ix (r := rIx K) ix_seq (pv 0) pe_int (fun _ _ => rfl)) (pv 1) (fun _ _ => rfl)) pa_nil)))
      (pss_cons (ps_for PassesOwn.never rfl (pi_list (pv 2)) (pg_name (i := 4) sc_law_along.nd rfl (Or.inl rfl))
        (pss_cons (ps_set (i := 1) sc_law_along.nd rfl (Or.inl rfl) (pe_ix (r := rIx K) ix_seq (pe_ix (r := rIx K) ix_seq (pe_ix (r := rIx K) ix_seq (pv 0) pe_int (fun _ _ => rfl)) (pv 1) (fun _ _ => rfl)) (pv 4) (fun _ _ => rfl)))
          (pss_one (ps_expr (pe_bm PySem.F.plainAttrs_list PySem.F.slot_list_append PySem.F.type_list_append mt_append (pv 3) (pa_cons (pe_ix (r := rIx K) ix_seq (pe_ix (r := rIx K) ix_seq (pv 0) pe_int (fun _ _ => rfl)) (pv 1) (fun _ _ => rfl)) pa_nil))))))
      (pss_one (ps_ret (pv 3))))), ?_⟩
    obtain ⟨o1, o2, o3⟩ := g.outp hst
    refine ⟨_, rfl, .inr (.inl ⟨m, _, 3, .ref ou, rfl, rfl, SqT.of hM.top, rfl, ?_⟩)⟩
    refine ⟨_, rfl, .inr (.inl ⟨ou, _, _, _, rfl, rfl, SqT.of hM.ou, atI_get? hst.1 o1, ?_⟩)⟩
    refine ⟨(by show 1 ≤ sizeLine; decide), fun l hl => ?_⟩
    have s1 := same_upd (o := .lst [.int (M.out st)]) (Same.refl H) hl
    refine ⟨_, rfl, wp, rfl, ⟨_, SqL.of (s1 _ _ hw)⟩, for_list (K := K) (a := wp) (xs := v.map V.int) (fun j σ H' => ∃ v4 : Option V, σ = [some (.ref m), some (.int (M.run st (v.take j))), some (.ref wp), some (.ref l), v4] ∧ Same H H' ∧ H' l = some (.lst ((outsTo M st v j).map V.int)) ∧ M.St (M.run st (v.take j)))
      ⟨_, rfl, s1, upd_same, hst⟩ (fun i σ H' _ ⟨_, _, k, _⟩ => SqL.of (k _ _ hw)) ?_ ?_⟩
    · rintro j y σ H1 hj ⟨v4, rfl, s2, e1, hs⟩
      obtain ⟨z, hz, rfl⟩ := ofV hj
      have jl := (List.getElem?_eq_some_iff.mp hz).1
      obtain ⟨z0, z1⟩ := hv z (List.mem_of_getElem? hz)
      obtain ⟨hs2, u1, u2, u3⟩ := g.step hs z0 z1
      have hM1 := hM.same s2
      obtain ⟨r, f1, f2⟩ := hM1.rowAt hs.1 u2
      refine ⟨_, rfl, .inr (.inl ⟨m, _, 2, .ref mv, rfl, rfl, SqT.of hM1.top, rfl, ?_⟩)⟩
      refine ⟨_, rfl, .inr (.inl ⟨mv, _, _, _, rfl, rfl, SqT.of hM1.mv, f1, ?_⟩)⟩
      refine ⟨_, rfl, .inr (.inl ⟨r, _, _, _, rfl, rfl, SqT.of f2, atI_get? z0 u3, ?_⟩)⟩
      obtain ⟨p1, p2, p3⟩ := g.outp hs2
      refine ⟨_, rfl, .inl ⟨rfl, _, SqL.of e1⟩, ?_⟩
      refine ⟨_, rfl, .inr (.inl ⟨m, _, 3, .ref ou, rfl, rfl, SqT.of hM1.top, rfl, ?_⟩)⟩
      refine ⟨_, rfl, .inr (.inl ⟨ou, _, _, _, rfl, rfl, SqT.of hM1.ou, atI_get? hs2.1 p1, ?_⟩)⟩
      refine ⟨l, _, _, rfl, rfl, e1, ?_, ?_⟩
      · rw [List.length_map]
        unfold outsTo
        rw [List.length_map, List.length_range]
        exact Nat.lt_of_le_of_lt (by omega : j + 1 ≤ 1500) (by decide)
      · refine ⟨_, (by rw [take_more hz, run_snoc]; rfl), same_set s2 hl, ?_, by rw [take_more hz, run_snoc]; exact hs2⟩
        rw [upd_same, outsTo_succ, List.map_append, take_more hz, run_snoc]
        rfl
    · rintro σ H1 ⟨v4, rfl, s2, e1, hs⟩
      rw [List.length_map] at e1
      exact ⟨_, rfl, fin H1 l s2 hl e1⟩
end
end K25

set_option Elab.async false
set_option linter.all false
set_option maxRecDepth 100000
set_option maxHeartbeats 4000000
/-! sorted(.., key=f): f a def of the program, its keys data of any depth; over a list or a dict with tuples as keys -/
namespace Mz
open PySem PySem.Spec PyProof.Rows L2 PySem.W PySem.Calls
/-- the order of the items by their keys -/
def byKeys (xs : List V) (kz : List PyData) : List V := ((xs.zip kz).mergeSort (dataLe false Prod.snd)).map Prod.fst
/-- what is asked once all keys are made -/
def SortEnd (K : PySem.W.Frag) (xs : List V) (W : Nat → List V → Hp → Prop) (Q : VK) : Prop :=
  ∀ ks H, W xs.length ks H → ∃ kz : List PyData, DpAll K H ks kz ∧ AllAlike kz ∧ PySem.W.Sortable kz ∧ (∀ d ∈ kz, d.depth ≤ 8) ∧ ∀ p, H p = none → Q (.ref p) (upd H p (.lst (byKeys xs kz)))
section
variable {X : Cx} {k : Nat} {f : Addr} {fd : FuncData} {ps : List Str} {sp : Sp}
theorem run_fnA {A : Around} {pins : List (Addr × Obj)} {σ : L2.St} {H : Hp} {s : Shared} {Q : VK} {us : List Value} {vs : List V} {EE : Value → Shared → Prop} (F : FnOk X.prog X.w X.K X.mg X.base C8.CX0 k f fd ps sp) (hr : Room k A) (hA : A.frames = some X.stack) (hb : Binds X.K fd ps [])
    (I : Inv X pins σ H s) (r : Vals vs us) (h : sp vs H Q C8.E0) : wpAny (model X.prog X.w) A (call (.ref f) us) (EP X pins σ Q) EE s := by
  have hl : (us ++ []).length = ps.length := by rw [List.append_nil, ← r.length]; exact F.len _ _ _ _ h
  have e0 : Env0 X.prog X.w X.K X.mg X.base A X.stack s H := ⟨hA, I.env0.mod, I.env0.bs, I.env0.bsz, I.env0.funs, I.env0.frf, I.env0.hok, I.env0.bare⟩
  have hb' := hb s us I.kIn hl
  rw [List.append_nil] at hb'
  refine wpAny_call (codeAny_mono (F.run A X.stack s H ⟨us, []⟩ us vs Q C8.E0 hr e0 hb' r h) fun r s' hq => ?_)
  cases r with
  | error e => exact (show False from hq).elim
  | ok fl =>
    cases fl with
    | ret u => exact I.after hq
    | next => exact False.elim hq
    | brk => exact False.elim hq
    | cont => exact False.elim hq
theorem vals_at2 : ∀ {xs : List V} {us : List Value}, Vals xs us → ∀ {j : Nat} {x : V} {u : Value}, xs[j]? = some x → us[j]? = some u → RelV x u
  | [], _, r, _, _, _, h, _ => by simp at h
  | x :: xs, _, r, 0, _, _, h, g => by
    cases r with
    | cons h1 h2 =>
      cases h
      cases g
      exact h1
  | x :: xs, _, r, j + 1, _, _, h, g => by
    cases r with
    | cons h1 h2 => exact vals_at2 h2 (j := j) (by simpa using h) (by simpa using g)
theorem dpAll_len {K : PySem.W.Frag} {H : Hp} : ∀ {ks : List V} {kz : List PyData}, DpAll K H ks kz → ks.length = kz.length
  | [], [], _ => rfl
  | _ :: _, _ :: _, .cons _ h => congrArg (· + 1) (dpAll_len h)
theorem readsAll_is {h : Heap} : ∀ {ds : List PyData} {vs : List Value} {as : List Addr}, ReadsAll h vs ds as → EachIs (fun v d => ∃ as, Reads h v d as) vs ds
  | [], _, _, r => by
    cases r
    exact .nil
  | d :: ds, _, _, r => by
    cases r with
    | cons h1 h2 => exact .cons ⟨_, h1⟩ (readsAll_is h2)
theorem vals_zip : ∀ {xs : List V} {vs : List Value} {kz : List PyData}, Vals xs vs → xs.length = kz.length → EachIs (fun v (x : V × PyData) => RelV x.1 v) vs (xs.zip kz)
  | [], _, _, r, _ => by
    cases r
    exact .nil
  | x :: xs, _, [], _, h => by simp at h
  | x :: xs, _, d :: kz, r, h => by
    cases r with
    | cons h1 h2 => exact .cons h1 (vals_zip h2 (by simpa using h))
theorem each_vals : ∀ {out : List Value} {zs : List (V × PyData)}, EachIs (fun v (x : V × PyData) => RelV x.1 v) out zs → Vals (zs.map Prod.fst) out
  | _, _, .nil => .nil
  | _, _, .cons h t => .cons h (each_vals t)
theorem map_snd_zip : ∀ {xs : List V} {kz : List PyData}, xs.length = kz.length → (xs.zip kz).map Prod.snd = kz
  | [], [], _ => rfl
  | x :: xs, d :: kz, h => by
    rw [List.zip_cons_cons, List.map_cons, map_snd_zip (by simpa using h)]
  | [], _ :: _, h => by simp at h
  | _ :: _, [], h => by simp at h
/-- the keys are made, one after another; then the list's own object gets the items in order -/
theorem keyI_rest {A : Around} {pins : List (Addr × Obj)} {σ : L2.St} {H0 : Hp} {s : Shared} {Q : VK} {a kS : Addr} {e1 : Nat} {vs : List Value} {xs : List V} {W : Nat → List V → Hp → Prop} {P : PySem.Fin → Shared → Prop} {EE : Value → Shared → Prop}
    (F : FnOk X.prog X.w X.K X.mg X.base C8.CX0 k f fd ps sp) (hr : Room k A) (hA : A.frames = some X.stack) (hb : Binds X.K fd ps []) (I : Inv X pins σ H0 s) (nk : s.heap.get? kS = some (seqObj "list" #[] 0)) (na : s.heap.get? a = some (seqObj "list" #[] e1)) (hka : kS ≠ a)
    (fk : FpOk X pins H0 kS) (fa : FpOk X pins H0 a) (rv : Vals xs vs) (hZ : vs.length ≤ sizeLine) (w0 : W 0 [] H0)
    (turn : ∀ (i : Nat) (x : V) (ks : List V) (H : Hp), xs[i]? = some x → W i ks H → sp [x] H (fun key H' => W (i + 1) (ks ++ [key]) H') C8.E0) (fin : SortEnd X.K xs W Q)
    (hP : ∀ s', EP X pins σ Q (.ref a) s' → P (.done (.ret .none)) s') : wpAny (model X.prog X.w) A (ksk_rest a (.ref f) false vs.toArray e1 (.ref kS)) P EE s := by
  have hlen : xs.length = vs.length := rv.length
  have pinned : ∀ {H : Hp} {h : Heap} {g : Nat} {s' : Shared} {kA : Array Value} {e : Nat}, Inv X pins σ H s' → s'.heap.get? kS = some (seqObj "list" kA e) → s'.heap.get? a = some (seqObj "list" #[] e1) → H kS = none → H a = none → Inv X (pins ++ [(kS, seqObj "list" kA e), (a, seqObj "list" #[] e1)]) σ H s' := fun J h1 h2 h3 h4 =>
    J.pins_of fun p hp => by
      rcases List.mem_append.mp hp with z | z
      · exact J.pin p (List.mem_append_right _ z)
      · rcases List.mem_cons.mp z with z | z
        · subst z
          exact ⟨h1, h3, fk.2.1, fk.2.2.1, fun v z => by cases z⟩
        · rcases List.mem_cons.mp z with z | z
          · subst z
            exact ⟨h2, h4, fa.2.1, fa.2.2.1, fun v z => by cases z⟩
          · cases z
  unfold ksk_rest
  refine wpAny_bind (wpAny_rule ?_)
  first
    | rw [List.forIn_toArray]
    | (rw [← Array.forIn_toList]; simp only [List.toList_toArray])
    | rw [← Array.forIn_toList]
  refine wpAny_bind (ksk_fold (fun i s' => ∃ H kA e ks, Inv X (pins ++ [(kS, seqObj "list" kA e), (a, seqObj "list" #[] e1)]) σ H s' ∧ Vals ks kA.toList ∧ ks.length = i ∧ W i ks H) vs 0 s
    ⟨H0, #[], 0, [], pinned (h := s.heap) (g := 0) I nk na fk.1 fa.1, .nil, rfl, w0⟩ ?step ?done)
  case step =>
    rintro j v s' hv ⟨H, kA, e, ks, J, rk, lk, wj⟩
    rw [Nat.zero_add] at wj lk ⊢
    have hj : j < vs.length := (List.getElem?_eq_some_iff.mp hv).1
    obtain ⟨x, hx⟩ : ∃ x, xs[j]? = some x := ⟨_, List.getElem?_eq_getElem (by omega)⟩
    have rx : RelV x v := vals_at2 rv hx hv
    refine wpAny_bind (wpAny_attempt (wpAny_mono (run_fnA (EE := fun _ _ => False) F hr hA hb J (.cons rx .nil) (turn j x ks H hx wj)) (fun u s2 h2 => ?_) fun _ _ hF => hF.elim))
    obtain ⟨key, H2, J2, r2, w2⟩ := h2
    have pk := J2.pin (kS, seqObj "list" kA e) (List.mem_append_right _ (List.mem_append_right _ List.mem_cons_self))
    have pa := J2.pin (a, seqObj "list" #[] e1) (List.mem_append_right _ (List.mem_append_right _ (List.mem_cons_of_mem _ List.mem_cons_self)))
    have J3 := J2.unpinned
    have nk2 : s2.heap.get? kS = some (seqObj "list" kA e) := pk.1
    have na2 : s2.heap.get? a = some (seqObj "list" #[] e1) := pa.1
    have s1 := Heap.SameBut.update s2.heap kS (Obj.mapSeq (·.push u))
    obtain ⟨c2, hc2⟩ : ∃ c2, (s2.heap.update kS (Obj.mapSeq (·.push u))).get? kS = some (seqObj "list" (kA.push u) c2) := ⟨_, get?_update_seq nk2 (·.push u)⟩
    have hz : kA.size ≤ vs.length := by
      have h1 : ks.length = kA.toList.length := rk.length
      have h2 : kA.toList.length = kA.size := Array.length_toList
      rw [← h2, ← h1, lk]
      exact Nat.le_of_lt hj
    try dsimp only
    refine wpAny_bind (listUpdate_at nk2 rfl ?_ (Nat.le_trans hz hZ) (Nat.le_trans (Nat.le_of_eq (Array.size_push ..)) (Nat.succ_le_succ (Nat.le_trans hz hZ))))
    have J4 : Inv X pins σ H2 { s2 with heap := s2.heap.update kS (Obj.mapSeq (·.push u)) } := J3.turned (it := kS) (t' := s2.toks) (fun b o hb e => (s1.2 b hb).trans e) pk.2.1 fk.2.1 fk.2.2.2.1 fk.2.2.2.2.1 fk.2.2.2.2.2
    refine wpAny_pure ⟨rfl, H2, kA.push u, c2, ks ++ [key], pinned (h := s.heap) (g := 0) J4 hc2 ((s1.2 a hka.symm).trans na2) pk.2.1 pa.2.1, ?_, by rw [List.length_append, lk]; rfl, w2⟩
    rw [Array.toList_push]
    exact rk.append (.cons r2 .nil)
  case done =>
    rintro s' ⟨H, kA, e, ks, J, rk, lk, wj⟩
    rw [Nat.zero_add, ← hlen] at wj lk
    obtain ⟨kz, dk, hal, hsk, hd, q⟩ := fin ks H wj
    have lz : ks.length = kz.length := dpAll_len dk
    have pk := J.pin (kS, seqObj "list" kA e) (List.mem_append_right _ (List.mem_append_right _ List.mem_cons_self))
    have pa := J.pin (a, seqObj "list" #[] e1) (List.mem_append_right _ (List.mem_append_right _ (List.mem_cons_of_mem _ List.mem_cons_self)))
    have J3 := J.unpinned
    have nk2 : s'.heap.get? kS = some (seqObj "list" kA e) := pk.1
    have na2 : s'.heap.get? a = some (seqObj "list" #[] e1) := pa.1
    have nHk : H kS = none := pk.2.1
    have nHa : H a = none := pa.2.1
    obtain ⟨as, ra⟩ := Dp.readsAll J3 kz ks kA.toList dk rk
    have hk := readsAll_is ra
    have hsz : kA.size = vs.length := by
      have h1 := hk.length
      rw [Array.length_toList] at h1
      omega
    refine wpAny_bind (listItems_at nk2 rfl ?_)
    refine keyH_end (κ := dataKind s'.heap kz) (h₁ := hideAll s'.heap [kS]) (fun b o hb h => of_hideAll [kS] h) (hideAll_none [kS] (by simp)) nk2 na2 hka (SortsAt.data hk hal hsk fun d h => ?_) hsz hZ fun h3 tk3 c k3 n3 => hP _ ?_
    · have h1 := hd d h
      have h2 := hr.un
      omega
    · have ko : KeyedOut false kz vs (sortVals (dataKind s'.heap kz) false kA.toList vs) := ⟨s'.heap, kA.toList, hal, rfl, hk⟩
      have ev := keyedOut_each (R := fun v (x : V × PyData) => RelV x.1 v) (bs := xs.zip kz) Prod.snd (by rw [map_snd_zip (by omega)]; exact ko) (vals_zip rv (by omega))
      have vo : Vals (byKeys xs kz) (sortVals (dataKind s'.heap kz) false kA.toList vs) := each_vals ev
      have hlo : (byKeys xs kz).length ≤ sizeLine := by
        unfold byKeys
        rw [List.length_map, List.length_mergeSort, List.length_zip]
        omega
      have kp : ∀ b o, b ≠ kS → b ≠ a → s'.heap.get? b = some o → h3.get? b = some o := fun b o h1 h2 h => k3 b o h2 (hideAll_get [kS] h (by simpa using h1))
      have nb : ∀ b u, H b = some u → b ≠ a := fun b u h z => by
        rw [z, nHa] at h
        cases h
      have nbk : ∀ b u, H b = some u → b ≠ kS := fun b u h z => by
        rw [z, nHk] at h
        cases h
      have un : Un (frs X.stack) [kS, a] H (upd H a (.lst (byKeys xs kz))) s'.heap h3 := by
        refine ⟨fun b o h1 h2 h3 h4 => kp b o (fun z => h4 (by simp [z])) (fun z => h4 (by simp [z])) h1, fun b o h1 h2 h3 h4 => ⟨o.slots, kp b o (fun z => h4 (by simp [z])) (fun z => h4 (by simp [z])) h1⟩,
          fun b o h1 h2 h4 => by rw [upd_ne (fun z => h4 (by simp [z]))]; exact h2, fun b o h1 h4 => ⟨o, kp b o (fun z => h4 (by simp [z])) (fun z => h4 (by simp [z])) h1⟩,
          fun b ys h => by rw [upd_ne (nb b _ h)]; exact h, fun b o u h => by rw [upd_ne (nb b _ h)]; exact h, fun b ps h => ⟨#[], by rw [upd_ne (nb b _ h), h]; simp⟩⟩
      have hok : HOk X.prog X.w (upd H a (.lst (byKeys xs kz))) h3 := by
        intro b u h
        by_cases hb : b = a
        · rw [hb, upd_same] at h
          cases h
          rw [hb]
          exact ⟨hlo, _, c, vo, n3⟩
        · rw [upd_ne hb] at h
          refine (J3.hok b u h).stay (fun d v hd' h' => kp d v ?_ ?_ h') (fun d h' => ?_) fun d ys h' => ?_
          · rcases hd' with z | z
            · rw [z]; exact nbk b u h
            · exact nbk d _ z
          · rcases hd' with z | z
            · rw [z]; exact hb
            · exact nb d _ z
          · rw [upd_ne (nb d _ h')]; exact h'
          · rw [upd_ne (nb d _ h')]; exact h'
      have J5 : Inv X pins σ (upd H a (.lst (byKeys xs kz))) { s' with heap := h3, toks := tk3 } := J3.call (g' := s'.gens) (d' := s'.drawn) (ch := [kS, a]) un hok J3.bare fun b hb => by
        rcases List.mem_cons.mp hb with z | z
        · subst z
          exact ⟨fk.2.2.2.1, fk.2.1, fk.2.2.2.2.1, fk.2.2.2.2.2⟩
        · have z : b = a := by simpa using z
          subst z
          exact ⟨fa.2.2.2.1, fa.2.1, fa.2.2.2.2.1, fa.2.2.2.2.2⟩
      exact ⟨.ref a, _, J5, rfl, q a nHa⟩
/-- sorted(l, key=f), l collected to xs -/
theorem sortk_run {pins : List (Addr × Obj)} {σ : L2.St} {H : Hp} {s : Shared} {Q : VK} {l : Value} {vs : List Value} {xs : List V} {W : Nat → List V → Hp → Prop}
    (F : FnOk X.prog X.w X.K X.mg X.base C8.CX0 k f fd ps sp) (hr : Room (k + 2) X.A) (hb : Binds X.K fd ps []) (I : Inv X pins σ H s) (rv : Vals xs vs) (hZ : vs.length ≤ sizeLine)
    (col : ∀ (R : List Value → Shared → Prop) (EE : Value → Shared → Prop), (∀ h' tk, (∀ b o, s.heap.get? b = some o → h'.get? b = some o) → R vs { s with heap := h', toks := tk }) → wpAny (model X.prog X.w) X.A.in1 (collect l) R EE s) (w0 : W 0 [] H)
    (turn : ∀ (i : Nat) (x : V) (ks : List V) (H : Hp), xs[i]? = some x → W i ks H → sp [x] H (fun key H' => W (i + 1) (ks ++ [key]) H') C8.E0) (fin : SortEnd X.K xs W Q) :
    wpAny (model X.prog X.w) X.A (call (.builtin "sorted") [l] [(Str.ofString "key", .ref f)]) (EP X pins σ Q) X.xe s := by
  refine call_function_entry_kw kind_sorted plain_sorted entry_sorted (ksk_s1 _ _) ?_
  unfold Builtin.«sorted»
  refine wpAny_bind (m := checkCount "sorted" 1 1 _) (wpAny_pure ?_)
  refine wpAny_bind (col _ _ fun h1 tk1 kp1 => ?_)
  have I1 : Inv X pins σ H { s with heap := h1, toks := tk1 } := I.kept kp1
  refine wpAny_bind (wpAny_newList ?_ hZ)
  have I2 : Inv X pins σ H { s with heap := h1.push (seqObj "list" vs.toArray 0), toks := tk1 } := I1.kept (t' := tk1) fun b u e => Heap.get?_push_of_some _ e
  have ho : (h1.push (seqObj "list" vs.toArray 0)).get? h1.objs.size = some (seqObj "list" vs.toArray 0) := Heap.get?_push_size _ rfl
  have ha : h1.objs.size < (h1.push (seqObj "list" vs.toArray 0)).objs.size := Heap.lt_size ho
  refine wpAny_bind (wpAny_holding (wpAny_call_entry_kw slot_list_sort ⟨_, ho, rfl⟩ entry_list_sort ?_ (ksk_l1 _ _)))
  rw [ksk_t1]
  obtain ⟨e1, ho1⟩ : ∃ e1, ((h1.push (seqObj "list" vs.toArray 0)).update h1.objs.size (Obj.mapSeq fun _ => (#[] : Array Value))).get? h1.objs.size = some (seqObj "list" #[] e1) := ⟨_, get?_update_seq ho fun _ => #[]⟩
  have hkS : (((h1.push (seqObj "list" vs.toArray 0)).update h1.objs.size (Obj.mapSeq fun _ => (#[] : Array Value))).push (seqObj "tuple" vs.toArray 0)).objs.size = h1.objs.size + 1 + 1 := by rw [size_push', Heap.size_update, size_push']
  unfold ksk_tree
  refine wpAny_bind (listItems_at ho rfl ?_)
  refine wpAny_bind (listUpdate_at ho rfl ?_ (by rw [List.size_toArray]; exact hZ) (Nat.zero_le _))
  refine wpAny_bind (seqEpoch_at ho1 rfl ?_)
  refine wpAny_bind (wpAny_newTuple ?_ (by show vs.length ≤ _; exact hZ))
  refine wpAny_bind (wpAny_newList ?_ (Nat.zero_le _))
  refine wpAny_holding ?_
  have kp : ∀ b o, h1.get? b = some o → ((((h1.push (seqObj "list" vs.toArray 0)).update h1.objs.size (Obj.mapSeq fun _ => (#[] : Array Value))).push (seqObj "tuple" vs.toArray 0)).push (seqObj "list" #[] 0)).get? b = some o := fun b o e =>
    Heap.get?_push_of_some _ (Heap.get?_push_of_some _ (((Heap.SameBut.update _ h1.objs.size (Obj.mapSeq fun _ => (#[] : Array Value))).2 b (Nat.ne_of_lt (Heap.lt_size e))).trans (Heap.get?_push_of_some _ e)))
  have I3 : Inv X pins σ H { s with heap := (((h1.push (seqObj "list" vs.toArray 0)).update h1.objs.size (Obj.mapSeq fun _ => (#[] : Array Value))).push (seqObj "tuple" vs.toArray 0)).push (seqObj "list" #[] 0), toks := tk1 } := I1.kept (t' := tk1) kp
  have hr2 : Room k X.A.in1.in1 := Room.in1 (Room.in1 hr)
  have hne : (((h1.push (seqObj "list" vs.toArray 0)).update h1.objs.size (Obj.mapSeq fun _ => (#[] : Array Value))).push (seqObj "tuple" vs.toArray 0)).objs.size ≠ h1.objs.size := by rw [hkS]; omega
  refine keyI_rest (A := X.A.in1.in1) F hr2 I.ok.frames hb I3 (Heap.get?_push_size _ rfl) (Heap.get?_push_of_some _ (Heap.get?_push_of_some _ ho1)) hne
    (I1.fpOk (by rw [hkS]; show h1.objs.size ≤ _; omega) (I1.hok.fresh (by rw [hkS]; show h1.objs.size ≤ _; omega))) (I1.fpOk (Nat.le_refl _) (I1.hok.fresh (Nat.le_refl _))) rv hZ w0 turn fin fun s' hq => ⟨.none, rfl, ?_⟩
  exact wpAny_pure ⟨_, rfl, hq⟩
/-- over a list -/
def rSortK (K : PySem.W.Frag) (f : Addr) (sp : Sp) : List V → List V → Hp → VK → Prop := fun vs zs H Q => ∃ (l : Addr) (xs : List V), vs = [.ref l] ∧ zs = [.ref f] ∧ SqL K H l xs ∧
  ∃ W : Nat → List V → Hp → Prop, W 0 [] H ∧ (∀ (i : Nat) (x : V) (ks : List V) (H : Hp), xs[i]? = some x → W i ks H → sp [x] H (fun key H' => W (i + 1) (ks ++ [key]) H') C8.E0) ∧ SortEnd K xs W Q
theorem cr_sortK (F : FnOk X.prog X.w X.K X.mg X.base C8.CX0 k f fd ps sp) (hr : Room (k + 2) X.A) (hb : Binds X.K fd ps []) : CallRK X (.builtin "sorted") [Str.ofString "key"] (rSortK X.K f sp) := by
  intro pins s σ H vs zs us ws Q I r rz h
  obtain ⟨l, xs, rfl, rfl, hs, W, w0, turn, fin⟩ := h
  obtain rfl := Vals.ref1 r
  obtain ⟨w1, rfl, e1⟩ := vals1 rz
  obtain rfl : w1 = Value.ref f := e1
  obtain ⟨its, rv, hl, hz⟩ := I.list hs
  have hZ : its.length ≤ sizeLine := by rw [← rv.length]; exact hz
  refine sortk_run F hr hb I rv hZ (fun R EE hR => collect_list hl.isList (hR _ _ fun b o e => ?_) hZ) w0 turn fin
  exact ((Heap.SameBut.update _ s.heap.objs.size (Obj.mapSeq (· ++ its.toArray))).2 b (Nat.ne_of_lt (Heap.lt_size e))).trans (Heap.get?_push_of_some _ e)
/-- over a dict whose keys are tuples -/
def rSortKD (K : PySem.W.Frag) (f : Addr) (sp : Sp) : List V → List V → Hp → VK → Prop := fun vs zs H Q => ∃ (d : Addr) (kvs : List (List Key × V)), vs = [.ref d] ∧ zs = [.ref f] ∧ Rd H d (.dT kvs) ∧
  ∀ bs : List Addr, IsKeys H kvs bs →
  ∃ W : Nat → List V → Hp → Prop, W 0 [] H ∧ (∀ (i : Nat) (x : V) (ks : List V) (H : Hp), (bs.map V.ref)[i]? = some x → W i ks H → sp [x] H (fun key H' => W (i + 1) (ks ++ [key]) H') C8.E0) ∧ SortEnd K (bs.map V.ref) W Q
theorem cr_sortKD (hc : X.calm = true) (F : FnOk X.prog X.w X.K X.mg X.base C8.CX0 k f fd ps sp) (hr : Room (k + 2) X.A) (hb : Binds X.K fd ps []) : CallRK X (.builtin "sorted") [Str.ofString "key"] (rSortKD X.K f sp) := by
  intro pins s σ H vs zs us ws Q I r rz h
  obtain ⟨d, kvs, rfl, rfl, hd, h⟩ := h
  obtain rfl := Vals.ref1 r
  obtain ⟨w1, rfl, e1⟩ := vals1 rz
  obtain rfl : w1 = Value.ref f := e1
  obtain ⟨z, hs, ks, pr, o, es, ep, ho, hx, hdt, he, hn⟩ := (show ObjOk X.prog X.w H s.heap d (.dT kvs) from hd.ok I.hok)
  have l1 : es.size = ks.length := size_of_entries he
  have l2 : kvs.length = ks.length := Paired.length pr
  obtain ⟨W, w0, turn, fin⟩ := h _ (isKeys_of pr)
  have rv : Vals ((ks.map fun x => x.2.1).map V.ref) ((ks.map fun x => x.2.1).map Value.ref) := vals_refs _
  have hZ : ((ks.map fun x => x.2.1).map Value.ref).length ≤ sizeLine := by rw [List.length_map, List.length_map]; omega
  refine sortk_run F hr hb I rv hZ (fun R EE hR => ?_) w0 turn fin
  refine kdu_collect (A := X.A.in1) (kdl_raw hs hx hdt) (I.ok.hd hc) ho (by omega) fun h' tk acc kp it => ?_
  have ea : acc.toList = (ks.map fun x => x.2.1).map Value.ref := by
    have hl : acc.toList.length = ks.length := by rw [Array.length_toList, it.1]; exact l1
    rw [List.map_map]
    apply List.ext_getElem?
    intro j
    rw [List.getElem?_map]
    cases hj : acc.toList[j]? with
    | none =>
      have h1 := List.getElem?_eq_none_iff.mp hj
      rw [List.getElem?_eq_none (by omega)]
      all_goals rfl
    | some v =>
      obtain ⟨en, hen, hv⟩ := it.2 j v (by rw [← Array.getElem?_toList]; exact hj)
      have qe := entry_at he j
      rw [hen] at qe
      cases hb : ks[j]? with
      | none =>
        rw [hb] at qe
        exact nomatch (show some en = none from qe)
      | some b =>
        rw [hb] at qe
        have e2 : en = entryOfKey (tupleKind (mixKind X.prog X.w)) b := Option.some.inj qe
        rw [hv, e2]
        all_goals rfl
  rw [ea]
  exact hR h' tk kp
end
end Mz

set_option Elab.async false
set_option linter.all false
set_option maxRecDepth 100000
set_option maxHeartbeats 4000000
/-! small things: f-strings, sums and slices of tuples, fields of objects, all but one thing as it was -/
namespace Mz
open PySem PySem.Spec PyProof.Rows L2
theorem js_3 {t1 : TE} {z1 z2 : Str} {i1 : Int} {σ : L2.St} {H : Hp} {Q : Str → Hp → Prop} (h1 : ∀ {Q : VK}, Q (.int i1) H → t1 σ H Q) (b1 : i1.natAbs < 2 ^ 64) (l1 : z1.length ≤ 100) (l2 : z2.length ≤ 100)
    (k : ∀ out, Q out H) : tJs [tC (.str z1), tFmt t1, tC (.str z2)] Str.empty σ H Q := by
  have i1' := int_text_len_1921 (log_small b1)
  refine ⟨z1, rfl, ?_, ?_⟩
  · rw [PySem.Str.length_append, sizeLine_eq]
    show 0 + z1.length ≤ _
    omega
  refine h1 (.inr ⟨i1, rfl, log_small b1, _, rfl, ?_, z2, rfl, ?_, k _⟩)
  · rw [PySem.Str.length_append, PySem.Str.length_append, sizeLine_eq]
    show 0 + z1.length + _ ≤ _
    omega
  · rw [PySem.Str.length_append, PySem.Str.length_append, PySem.Str.length_append, sizeLine_eq]
    show 0 + z1.length + _ + _ ≤ _
    omega
theorem js_5 {t1 t2 : TE} {z1 z2 z3 : Str} {i1 i2 : Int} {σ : L2.St} {H : Hp} {Q : Str → Hp → Prop} (h1 : ∀ {Q : VK}, Q (.int i1) H → t1 σ H Q) (h2 : ∀ {Q : VK}, Q (.int i2) H → t2 σ H Q) (b1 : i1.natAbs < 2 ^ 64) (b2 : i2.natAbs < 2 ^ 64) (l1 : z1.length ≤ 100) (l2 : z2.length ≤ 100) (l3 : z3.length ≤ 100)
    (k : ∀ out, Q out H) : tJs [tC (.str z1), tFmt t1, tC (.str z2), tFmt t2, tC (.str z3)] Str.empty σ H Q := by
  have i1' := int_text_len_1921 (log_small b1)
  have i2' := int_text_len_1921 (log_small b2)
  refine ⟨z1, rfl, ?_, ?_⟩
  · rw [PySem.Str.length_append, sizeLine_eq]
    show 0 + z1.length ≤ _
    omega
  refine h1 (.inr ⟨i1, rfl, log_small b1, _, rfl, ?_, z2, rfl, ?_, ?_⟩)
  · rw [PySem.Str.length_append, PySem.Str.length_append, sizeLine_eq]
    show 0 + z1.length + _ ≤ _
    omega
  · rw [PySem.Str.length_append, PySem.Str.length_append, PySem.Str.length_append, sizeLine_eq]
    show 0 + z1.length + _ + _ ≤ _
    omega
  refine h2 (.inr ⟨i2, rfl, log_small b2, _, rfl, ?_, z3, rfl, ?_, k _⟩)
  · rw [PySem.Str.length_append, PySem.Str.length_append, PySem.Str.length_append, PySem.Str.length_append, sizeLine_eq]
    show 0 + z1.length + _ + _ + _ ≤ _
    omega
  · rw [PySem.Str.length_append, PySem.Str.length_append, PySem.Str.length_append, PySem.Str.length_append, PySem.Str.length_append, sizeLine_eq]
    show 0 + z1.length + _ + _ + _ + _ ≤ _
    omega
theorem lk_here {k : Str} {v : V} {r : List (Str × V)} : List.lookup k ((k, v) :: r) = some v := by
  have e : (k == k) = true := beq_self_eq_true k
  simp only [List.lookup, e]
theorem lk_past {k g : Str} {v : V} {r : List (Str × V)} (h : (k == g) = false) : List.lookup k ((g, v) :: r) = List.lookup k r := by
  simp only [List.lookup, h]
theorem put_here {f : Str} {v x : V} {r : List (Str × V)} : putF f v ((f, x) :: r) = (f, v) :: r := if_pos rfl
theorem put_past {f g : Str} {v x : V} {r : List (Str × V)} (h : ¬ g = f) : putF f v ((g, x) :: r) = (g, x) :: putF f v r := if_neg h
theorem slA_any {K : PySem.W.Frag} {H : Hp} {a : Addr} {xs : List V} {lo hi : Option Int} {Q : VK} (h : H a = some (.tup xs)) (q : ∀ H' p, Same H H' → H' p = some (.tup (cutV xs lo hi)) → Q (.ref p) H') : rSlA K (.ref a) lo hi H Q := by
  refine ⟨a, xs, rfl, SqT.of h, fun z => ?_, fun _ p hp => q _ p (same_upd (Same.refl H) hp) upd_same⟩
  refine q H a (Same.refl H) ?_
  rw [h]
  unfold cutV
  rw [z.1, z.2, List.drop_zero, Nat.sub_zero, List.take_length]
theorem catA_any {K : PySem.W.Frag} {H : Hp} {a b : Addr} {xs ys : List V} {Q : VK} (h1 : H a = some (.tup xs)) (h2 : H b = some (.tup ys)) (l : xs.length + ys.length ≤ sizeLine) (q : ∀ H' p, Same H H' → H' p = some (.tup (xs ++ ys)) → Q (.ref p) H') : rCatA K (.ref a) (.ref b) H Q := by
  refine ⟨a, b, xs, ys, rfl, rfl, SqT.of h1, SqT.of h2, l, fun z => ?_, fun _ z => ?_, fun _ _ p hp => q _ p (same_upd (Same.refl H) hp) upd_same⟩
  · subst z
    exact q H b (Same.refl H) h2
  · subst z
    exact q H a (Same.refl H) (by rw [List.append_nil]; exact h1)
/-- all but d as it was -/
def But (H H' : Hp) (p : Addr) : Prop := ∀ b o, H b = some o → b ≠ p → H' b = some o
theorem Same.but {H H' : Hp} {p : Addr} (s : Same H H') : But H H' p := fun b o e _ => s b o e
theorem But.trans {H H1 H2 : Hp} {p : Addr} (a : But H H1 p) (b : But H1 H2 p) : But H H2 p := fun c o e n => b c o (a c o e n) n
/-- lists of ints by their addresses, none of them the list D -/
def LLd (H : Hp) (ts : List Addr) (ws : List (List Int)) (D : Addr) : Prop := LL H ts ws ∧ ∀ a ∈ ts, a ≠ D
theorem LLd.nil {H : Hp} {D : Addr} : LLd H [] [] D := ⟨⟨rfl, fun i a u h => by simp at h⟩, fun a h => absurd h (by simp)⟩
theorem LLd.same {H H' : Hp} {ts : List Addr} {ws : List (List Int)} {D : Addr} (h : LLd H ts ws D) (s : Same H H') : LLd H' ts ws D := ⟨h.1.same s, h.2⟩
theorem LLd.upd {H : Hp} {ts : List Addr} {ws : List (List Int)} {D : Addr} (h : LLd H ts ws D) (o : HO) : LLd (L2.upd H D o) ts ws D := ⟨⟨h.1.1, fun j b y h1 h2 => (upd_ne (h.2 b (List.mem_of_getElem? h1))).trans (h.1.2 j b y h1 h2)⟩, h.2⟩
theorem LLd.snoc {H : Hp} {ts : List Addr} {ws : List (List Int)} {D l : Addr} {u : List Int} (h : LLd H ts ws D) (e : H l = some (.lst (u.map V.int))) (n : l ≠ D) : LLd H (ts ++ [l]) (ws ++ [u]) D := by
  refine ⟨⟨by rw [List.length_append, List.length_append, h.1.1]; rfl, fun j b y h1 h2 => ?_⟩, fun a ha => ?_⟩
  · rcases get_app h2 with z | ⟨z1, z2⟩
    · rcases get_app h1 with v | ⟨v1, v2⟩
      · exact h.1.2 j b y v z
      · have := (List.getElem?_eq_some_iff.mp z).1
        rw [← h.1.1] at this
        omega
    · rcases get_app h1 with v | ⟨v1, v2⟩
      · have := (List.getElem?_eq_some_iff.mp v).1
        rw [h.1.1] at this
        omega
      · rw [v2, z2]
        exact e
  · rcases List.mem_append.mp ha with q | q
    · exact h.2 a q
    · rw [List.mem_singleton.mp q]
      exact n
theorem LLd.push {H : Hp} {ts : List Addr} {ws : List (List Int)} {D l : Addr} {u : List Int} (h : LLd H ts ws D) (e : H l = some (.lst (u.map V.int))) (n : l ≠ D) (o : HO) : LLd (L2.upd H D o) (ts ++ [l]) (ws ++ [u]) D := (h.snoc e n).upd o
end Mz

set_option Elab.async false
set_option linter.all false
set_option maxRecDepth 100000
set_option maxHeartbeats 4000000
/-! words sorted in the order of words -/
namespace Mz
open PySem PySem.Spec PyProof.Rows L2
/-- a >= b of data -/
def rGeD (K : PySem.W.Frag) : R2 := fun x y H Q => ∃ d e, Dp K H x d ∧ Dp K H y e ∧ W.alike d e = true ∧ d ≠ .none ∧ min d.depth e.depth ≤ 64 ∧ Q (.bl (!W.dataLt d e)) H
theorem op_geD {X : Cx} (hu : X.A.units + 64 < cLine) : OpR X (compareOp .GtE) (rGeD X.K) := by
  rintro pins s σ H x y v u Q I rx ry ⟨d, e, hd, he, al, hn, dep, q⟩
  obtain ⟨as, r1⟩ := Dp.reads I d x v hd rx
  obtain ⟨bs, r2⟩ := Dp.reads I e y u he ry
  exact PySem.W.ge_data r1 r2 al hn (by omega) ⟨.bl _, H, I, rfl, q⟩
theorem lex_tri : ∀ u v : List Int, u.length = v.length → HT.lexLt u v = false → HT.lexLt v u = false → u = v
  | [], [], _, _, _ => rfl
  | [], _ :: _, h, _, _ => by simp at h
  | _ :: _, [], h, _, _ => by simp at h
  | x :: u, y :: v, h, h1, h2 => by
    rw [HT.lexLt_cons] at h1 h2
    by_cases e : x = y
    · rw [if_pos e] at h1
      rw [if_pos e.symm] at h2
      rw [e, lex_tri u v (by simpa using h) h1 h2]
    · rw [if_neg e] at h1
      rw [if_neg (Ne.symm e)] at h2
      have := of_decide_eq_false h1
      have := of_decide_eq_false h2
      omega
theorem lex_irr : ∀ u : List Int, HT.lexLt u u = false
  | [] => rfl
  | x :: u => by rw [HT.lexLt_cons, if_pos rfl]; exact lex_irr u
theorem word_tri {u v : List Int} (h1 : wordLt u v = false) (h2 : wordLt v u = false) : u = v := by
  unfold wordLt at h1 h2
  by_cases e : u.length = v.length
  · rw [if_pos e] at h1
    rw [if_pos e.symm] at h2
    exact lex_tri u v e h1 h2
  · rw [if_neg e] at h1
    rw [if_neg (Ne.symm e)] at h2
    have := of_decide_eq_false h1
    have := of_decide_eq_false h2
    omega
theorem dataLt_lst (u v : List Int) (e : u.length = v.length) : PySem.W.dataLt (dLst u) (dLst v) = HT.lexLt u v := by
  show PySem.W.dataLt (.list _) (.list _) = _
  rw [PySem.W.dataLt_list]
  have := lex_ints u v [] e
  rw [List.append_nil, List.append_nil] at this
  exact this
/-- a tuple's word as a key -/
def wordT (ns : List Int) : PyData := .tuple [.int ns.length, .tuple (ns.map PyData.int)]
theorem alike_wordT (ns ms : List Int) : W.alike (wordT ns) (wordT ms) = true := by
  simp only [wordT, W.alike, W.alikeAll, Mz.alike_ints, Bool.and_true]
theorem dataLt_wordT (ns ms : List Int) : PySem.W.dataLt (wordT ns) (wordT ms) = wordLt ns ms := by
  unfold PySem.W.dataLt wordT wordLt
  simp only [PySem.W.keyToks, PySem.W.keyToksAll, List.cons_append, List.nil_append]
  rw [lex_eq]
  by_cases e : ns.length = ms.length
  · rw [if_pos e, e, lex_eq, lex_eq]
    exact lex_ints ns ms _ e
  · rw [if_neg e, lex_diff (by simpa using fun z => e (by omega))]
    show decide _ = decide _
    rw [decide_eq_decide]
    omega
theorem depth_wordD (ns : List Int) : (wordD ns).depth ≤ 8 := by
  have h := Mz.depth_ints ns
  simp [wordD, PyData.depth, PyData.depthAll]
  omega
theorem depth_wordT (ns : List Int) : (wordT ns).depth ≤ 8 := by
  have h := Mz.depth_ints ns
  simp [wordT, PyData.depth, PyData.depthAll]
  omega
section
variable {α : Type}
/-- items, each with its word, in the order of their words -/
theorem sortW (fv : α → V) {key : List Int → PyData} (hk : ∀ u v, PySem.W.dataLt (key u) (key v) = wordLt u v) (ts : List α) (ws : List (List Int)) (l : ts.length = ws.length) :
    ∃ zs : List (α × List Int), byKeys (ts.map fv) (ws.map key) = zs.map (fun z => fv z.1) ∧ zs.Perm (ts.zip ws) ∧ (zs.map Prod.snd).Pairwise (fun u v => wordLt v u = false) := by
  have e : (ts.map fv).zip (ws.map key) = (ts.zip ws).map (fun z => (fv z.1, key z.2)) := by
    rw [List.zip_map]
    rfl
  refine ⟨(ts.zip ws).mergeSort (fun p q => !wordLt q.2 p.2), ?_, List.mergeSort_perm _ _, ?_⟩
  · unfold byKeys
    rw [e, ← PySem.W.sort_maps (r := fun p q : α × List Int => !wordLt q.2 p.2) (s := PySem.W.dataLe false Prod.snd) (fun z : α × List Int => (fv z.1, key z.2)) (fun a _ b _ => ?_), List.map_map]
    · rfl
    · rw [PySem.W.dataLe_eq]
      show (!wordLt b.2 a.2) = (!PySem.W.dataLt (key b.2) (key a.2))
      rw [hk]
  · have h := PySem.W.sort_pairwise (PySem.W.sortLe_total (PyProof.Rows.listOrd itemOrd) false (fun z : α × List Int => PySem.W.keyToks (key z.2))) (ts.zip ws)
    have e2 : (ts.zip ws).mergeSort (fun p q => !wordLt q.2 p.2) = (ts.zip ws).mergeSort (PySem.W.sortLe (PyProof.Rows.listOrd itemOrd) false (fun z : α × List Int => PySem.W.keyToks (key z.2))) := PySem.W.sort_congr fun a _ b _ => by
      show (!wordLt b.2 a.2) = (!PySem.W.dataLt (key b.2) (key a.2))
      rw [hk]
    rw [e2, List.pairwise_map]
    refine h.imp fun {a b} q => ?_
    have q : (!PySem.W.dataLt (key b.2) (key a.2)) = true := q
    rw [hk] at q
    simpa using q
end
/-- strictly ascending -/
def Asc (ws : List (List Int)) : Prop := ws.Pairwise fun u v => wordLt u v = true
theorem asc_of {ws : List (List Int)} (h : ws.Pairwise (fun u v => wordLt v u = false)) (nd : ws.Nodup) : Asc ws := by
  have h2 := List.pairwise_iff_getElem.mp h
  have n2 := List.pairwise_iff_getElem.mp nd
  refine List.pairwise_iff_getElem.mpr fun i j hi hj hij => ?_
  cases q : wordLt ws[i] ws[j] with
  | true => rfl
  | false => exact absurd (word_tri q (h2 i j hi hj hij)) (n2 i j hi hj hij)
theorem zip_snd {α : Type} : ∀ {ts : List α} {ws : List (List Int)}, ts.length = ws.length → (ts.zip ws).map Prod.snd = ws
  | [], [], _ => rfl
  | t :: ts, w :: ws, h => by rw [List.zip_cons_cons, List.map_cons, zip_snd (by simpa using h)]
  | [], _ :: _, h => by simp at h
  | _ :: _, [], h => by simp at h
theorem ll_zip {H : Hp} {ts : List Addr} {ws : List (List Int)} (h : LL H ts ws) : ∀ z ∈ ts.zip ws, H z.1 = some (.lst (z.2.map V.int)) := fun z hz => by
  obtain ⟨i, hi⟩ := List.mem_iff_getElem?.mp hz
  rw [List.getElem?_zip_eq_some] at hi
  exact h.2 i z.1 z.2 hi.1 hi.2
theorem ll_of {H : Hp} {zs : List (Addr × List Int)} (h : ∀ z ∈ zs, H z.1 = some (.lst (z.2.map V.int))) : LL H (zs.map Prod.fst) (zs.map Prod.snd) := by
  refine ⟨by rw [List.length_map, List.length_map], fun i a w h1 h2 => ?_⟩
  rw [List.getElem?_map] at h1 h2
  cases q : zs[i]? with
  | none => rw [q] at h1; cases h1
  | some z =>
    rw [q] at h1 h2
    cases h1
    cases h2
    exact h z (List.mem_of_getElem? q)
/-- the promise of word_order: (len(word), word) -/
def spOrder (K : PySem.W.Frag) : Sp := fun vs H Q _ => ∃ (a : Addr) (ns : List Int), vs = [.ref a] ∧ (SqL K H a (ns.map V.int) ∨ SqT K H a (ns.map V.int)) ∧ ∀ p, H p = none → Q (.ref p) (upd H p (.tup [.int ns.length, .ref a]))
section
variable {K : PySem.W.Frag} {H : Hp} {Q : VK}
/-- sorted(words, key=word_order): a list of lists -/
theorem sort_lists {l f : Addr} {ts : List Addr} {ws : List (List Int)} (hl : H l = some (.lst (ts.map V.ref))) (h : LL H ts ws) (nd : ws.Nodup)
    (q : ∀ (H' : Hp) (p : Addr) (ts' : List Addr) (ws' : List (List Int)), Same H H' → H p = none → H' p = some (.lst (ts'.map V.ref)) → LL H' ts' ws' → ws'.Perm ws → Asc ws' → (∀ t ∈ ts', t ∈ ts) → Q (.ref p) H') : rSortK K f (spOrder K) [.ref l] [.ref f] H Q := by
  refine ⟨l, ts.map V.ref, rfl, rfl, SqL.of hl, fun i ks H' => Same H H' ∧ ∃ ps : List Addr, ks = ps.map V.ref ∧ ps.length = i ∧ ∀ (j : Nat) (p t : Addr) (w : List Int), ps[j]? = some p → ts[j]? = some t → ws[j]? = some w → H' p = some (.tup [.int w.length, .ref t]), ⟨Same.refl _, [], rfl, rfl, fun j p t w h => by simp at h⟩, ?_, ?_⟩
  · rintro i x ks H1 hx ⟨s1, ps, rfl, lp, hp⟩
    obtain ⟨t, ht, rfl⟩ := ofV hx
    have li := (List.getElem?_eq_some_iff.mp ht).1
    have hw := List.getElem?_eq_getElem (l := ws) (i := i) (by have := h.1; omega)
    refine ⟨t, ws[i]'(by have := h.1; omega), rfl, .inl (SqL.of (s1 _ _ (h.2 i _ _ ht hw))), fun p hp0 => ⟨same_upd s1 hp0, ps ++ [p], by rw [List.map_append]; rfl, by rw [List.length_append, lp]; rfl, fun j p' t' w' e1 e2 e3 => ?_⟩⟩
    have sp := same_upd (o := .tup [.int ((ws[i]'(by have := h.1; omega)).length : Int), .ref t]) (Same.refl H1) hp0
    rcases get_app e1 with z | ⟨z1, z2⟩
    · exact sp _ _ (hp j p' t' w' z e2 e3)
    · have ej : j = i := z1.trans lp
      subst ej
      rw [ht] at e2
      rw [hw] at e3
      cases e2
      cases e3
      rw [z2]
      exact upd_same
  · rintro ks H1 ⟨s1, ps, rfl, lp, hp⟩
    rw [List.length_map] at lp
    have lw := h.1
    have dk : ∀ (ps ts : List Addr) (ws : List (List Int)), ps.length = ts.length → ts.length = ws.length → (∀ (j : Nat) (p t : Addr) (w : List Int), ps[j]? = some p → ts[j]? = some t → ws[j]? = some w → H1 p = some (.tup [.int w.length, .ref t]) ∧ H1 t = some (.lst (w.map V.int))) → DpAll K H1 (ps.map V.ref) (ws.map wordD) := by
      intro ps
      induction ps with
      | nil =>
        intro ts ws h1 h2 _
        have : ws = [] := List.length_eq_zero_iff.mp (by rw [← h2, ← h1]; rfl)
        rw [this]
        exact .nil
      | cons p ps ih =>
        intro ts ws h1 h2 h3
        match ts, ws, h1, h2 with
        | t :: ts, w :: ws, h1, h2 =>
          obtain ⟨e1, e2⟩ := h3 0 p t w rfl rfl rfl
          exact .cons (.tup (SqT.of e1) (.cons (.int _) (.cons (.lst (SqL.of e2) (dp_ints w)) .nil))) (ih ts ws (by simpa using h1) (by simpa using h2) fun j p' t' w' a b c => h3 (j + 1) p' t' w' a b c)
    refine ⟨ws.map wordD, dk ps ts ws lp lw (fun j p t w a b c => ⟨hp j p t w a b c, s1 _ _ (h.2 j t w b c)⟩), PySem.W.AllAlike.of alike_word, PySem.W.Sortable.tuples (fun w => ⟨_, _, rfl⟩), fun d hd => ?_, fun p hp0 => ?_⟩
    · obtain ⟨w, _, rfl⟩ := List.mem_map.mp hd
      exact depth_wordD w
    · obtain ⟨zs, ez, pz, az⟩ := sortW V.ref dataLt_word ts ws lw
      rw [ez]
      have s2 := same_upd (o := .lst (zs.map fun z => V.ref z.1)) s1 hp0
      have pw : (zs.map Prod.snd).Perm ws := by
        have := pz.map Prod.snd
        rw [zip_snd lw] at this
        exact this
      refine q _ p (zs.map Prod.fst) (zs.map Prod.snd) s2 (s1.free hp0) (by rw [upd_same, List.map_map]; rfl) (ll_of fun z hz => s2 _ _ (ll_zip h z (pz.mem_iff.mp hz))) pw (asc_of az (pw.nodup_iff.mpr nd)) fun t ht => ?_
      obtain ⟨z, hz, rfl⟩ := List.mem_map.mp ht
      exact (List.of_mem_zip (pz.mem_iff.mp hz)).1
/-- sorted(found, key=word_order): a dict whose keys are words -/
theorem sort_words {d f : Addr} {kvs : List (List L2.Key × V)} {ws : List (List Int)} (hd : H d = some (.dT kvs)) (hk : kvs.map Prod.fst = ws.map (fun w => w.map Sum.inl)) (nd : ws.Nodup)
    (q : ∀ (H' : Hp) (p : Addr) (ts' : List Addr) (ws' : List (List Int)), Same H H' → H p = none → H' p = some (.lst (ts'.map V.ref)) → ts'.length = ws'.length → (∀ (i : Nat) (t : Addr) (w : List Int), ts'[i]? = some t → ws'[i]? = some w → H' t = some (.tup (w.map V.int))) → ws'.Perm ws → Asc ws' → Q (.ref p) H') : rSortKD K f (spOrder K) [.ref d] [.ref f] H Q := by
  refine ⟨d, kvs, rfl, rfl, .inl hd, fun ts hts => ?_⟩
  have lkv : kvs.length = ws.length := by
    have := congrArg List.length hk
    rwa [List.length_map, List.length_map] at this
  have lw : ts.length = ws.length := (Paired.length hts).symm.trans lkv
  have ht0 : ∀ (j : Nat) (t : Addr) (w : List Int), ts[j]? = some t → ws[j]? = some w → H t = some (.tup (w.map V.int)) := fun j t w h1 h2 => by
    have lj := (List.getElem?_eq_some_iff.mp h1).1
    have hkv := List.getElem?_eq_getElem (l := kvs) (i := j) (by omega)
    have e1 : (kvs.map Prod.fst)[j]? = some (kvs[j]'(by omega)).1 := by rw [List.getElem?_map, hkv]; rfl
    rw [hk, List.getElem?_map, h2] at e1
    have e1 : w.map Sum.inl = (kvs[j]'(by omega)).1 := Option.some.inj e1
    obtain ⟨b, hb, e2⟩ := L2.paired_get hts hkv
    rw [h1] at hb
    cases hb
    have e2 : H t = some (.tup ((kvs[j]'(by omega)).1.map kV)) := e2
    rw [← e1, List.map_map] at e2
    exact e2
  refine ⟨fun i ks H' => Same H H' ∧ ∃ ps : List Addr, ks = ps.map V.ref ∧ ps.length = i ∧ ∀ (j : Nat) (p t : Addr) (w : List Int), ps[j]? = some p → ts[j]? = some t → ws[j]? = some w → H' p = some (.tup [.int w.length, .ref t]), ⟨Same.refl _, [], rfl, rfl, fun j p t w h => by simp at h⟩, ?_, ?_⟩
  · rintro i x ks H1 hx ⟨s1, ps, rfl, lp, hp⟩
    obtain ⟨t, ht, rfl⟩ := ofV hx
    have li := (List.getElem?_eq_some_iff.mp ht).1
    have hw := List.getElem?_eq_getElem (l := ws) (i := i) (by omega)
    refine ⟨t, ws[i]'(by omega), rfl, .inr (SqT.of (s1 _ _ (ht0 i _ _ ht hw))), fun p hp0 => ⟨same_upd s1 hp0, ps ++ [p], by rw [List.map_append]; rfl, by rw [List.length_append, lp]; rfl, fun j p' t' w' e1 e2 e3 => ?_⟩⟩
    have sp := same_upd (o := .tup [.int ((ws[i]'(by omega)).length : Int), .ref t]) (Same.refl H1) hp0
    rcases get_app e1 with z | ⟨z1, z2⟩
    · exact sp _ _ (hp j p' t' w' z e2 e3)
    · have ej : j = i := z1.trans lp
      subst ej
      rw [ht] at e2
      rw [hw] at e3
      cases e2
      cases e3
      rw [z2]
      exact upd_same
  · rintro ks H1 ⟨s1, ps, rfl, lp, hp⟩
    rw [List.length_map] at lp
    have dk : ∀ (ps ts : List Addr) (ws : List (List Int)), ps.length = ts.length → ts.length = ws.length → (∀ (j : Nat) (p t : Addr) (w : List Int), ps[j]? = some p → ts[j]? = some t → ws[j]? = some w → H1 p = some (.tup [.int w.length, .ref t]) ∧ H1 t = some (.tup (w.map V.int))) → DpAll K H1 (ps.map V.ref) (ws.map wordT) := by
      intro ps
      induction ps with
      | nil =>
        intro ts ws h1 h2 _
        have : ws = [] := List.length_eq_zero_iff.mp (by rw [← h2, ← h1]; rfl)
        rw [this]
        exact .nil
      | cons p ps ih =>
        intro ts ws h1 h2 h3
        match ts, ws, h1, h2 with
        | t :: ts, w :: ws, h1, h2 =>
          obtain ⟨e1, e2⟩ := h3 0 p t w rfl rfl rfl
          exact .cons (.tup (SqT.of e1) (.cons (.int _) (.cons (.tup (SqT.of e2) (dp_ints w)) .nil))) (ih ts ws (by simpa using h1) (by simpa using h2) fun j p' t' w' a b c => h3 (j + 1) p' t' w' a b c)
    refine ⟨ws.map wordT, dk ps ts ws lp lw (fun j p t w a b c => ⟨hp j p t w a b c, s1 _ _ (ht0 j t w b c)⟩), PySem.W.AllAlike.of alike_wordT, PySem.W.Sortable.tuples (fun w => ⟨_, _, rfl⟩), fun d hd => ?_, fun p hp0 => ?_⟩
    · obtain ⟨w, _, rfl⟩ := List.mem_map.mp hd
      exact depth_wordT w
    · obtain ⟨zs, ez, pz, az⟩ := sortW V.ref dataLt_wordT ts ws lw
      rw [ez]
      have s2 := same_upd (o := .lst (zs.map fun z => V.ref z.1)) s1 hp0
      have pw : (zs.map Prod.snd).Perm ws := by
        have := pz.map Prod.snd
        rw [zip_snd lw] at this
        exact this
      refine q _ p (zs.map Prod.fst) (zs.map Prod.snd) s2 (s1.free hp0) (by rw [upd_same, List.map_map]; rfl) (by rw [List.length_map, List.length_map]) (fun i t w h1 h2 => ?_) pw (asc_of az (pw.nodup_iff.mpr nd))
      rw [List.getElem?_map] at h1 h2
      cases qz : zs[i]? with
      | none => rw [qz] at h1; cases h1
      | some z =>
        rw [qz] at h1 h2
        cases h1
        cases h2
        have hz := pz.mem_iff.mp (List.mem_of_getElem? qz)
        obtain ⟨j, hj⟩ := List.mem_iff_getElem?.mp hz
        rw [List.getElem?_zip_eq_some] at hj
        exact s2 _ _ (ht0 j z.1 z.2 hj.1 hj.2)
end
end Mz

set_option Elab.async false
set_option linter.all false
/-! every state of a least machine is reached; a least machine with one other move answers otherwise -/
namespace Mz
open PySem PySem.Spec PyProof.Rows L2
section
variable {M : Mach} {G : List Int}
theorem ordStep_from : ∀ {row o : List Int} {c : Int}, c ∈ ordStep G row o → c ∈ o ∨ ∃ (a : Nat) (z : Int), row[a]? = some z ∧ c = cls G z
  | [], o, c, h => .inl h
  | z :: row, o, c, h => by
    have h : c ∈ ordStep G row (addC o (cls G z)) := h
    rcases ordStep_from h with q | ⟨a, y, h1, h2⟩
    · unfold addC at q
      by_cases m : cls G z ∈ o
      · rw [if_pos m] at q
        exact .inl q
      · rw [if_neg m] at q
        rcases List.mem_append.mp q with q | q
        · exact .inl q
        · exact .inr ⟨0, z, rfl, List.mem_singleton.mp q⟩
    · exact .inr ⟨a + 1, y, by simpa using h1, h2⟩
theorem plc_get {o : List Int} (n : o.Nodup) {i : Nat} {c : Int} (h : o[i]? = some c) : plc o c = i := by
  obtain ⟨l, e⟩ := plc_at (List.mem_of_getElem? h)
  exact (List.getElem?_inj l n).mp (e.trans h.symm)
theorem pre_get {l1 l2 : List Int} (h : l1 <+: l2) {i : Nat} {c : Int} (e : l1[i]? = some c) : l2[i]? = some c := by
  obtain ⟨t, rfl⟩ := h
  have := (List.getElem?_eq_some_iff.mp e).1
  rw [List.getElem?_append_left this]
  exact e
/-- every state of the least machine is reached -/
theorem least_reach (g : Good M) (r : Rep (EqM M) M.rows.length G) : ∀ k, k ≤ M.rows.length → ∀ c ∈ ordAt M G k, ∃ v, Lt M.ls v ∧ (leastBy M G (ordAt M G M.rows.length)).run 0 v = ((plc (ordAt M G M.rows.length) c : Nat) : Int)
  | 0, _, c, h => by
    rw [List.mem_singleton.mp h]
    have p := ord_pre (M := M) (G := G) 0 M.rows.length
    rw [Nat.zero_add] at p
    have e := pre_get p (i := 0) (c := cls G 0) rfl
    refine ⟨[], (fun _ h => by cases h), ?_⟩
    rw [plc_get (ord_ok g r _).1 e]
    rfl
  | k + 1, le, c, h => by
    have ih := least_reach g r k (by omega)
    by_cases lt : k < (ordAt M G k).length
    · have ek := List.getElem?_eq_getElem lt
      have e : (ordAt M G k).getD k 0 = (ordAt M G k)[k] := by
        rw [List.getD_eq_getElem?_getD, ek]
        rfl
      have h : c ∈ ordStep G (M.rows.getD ((ordAt M G k).getD k 0).toNat []) (ordAt M G k) := by
        unfold ordAt at h
        rw [if_pos lt] at h
        exact h
      rcases ordStep_from h with q | ⟨a, z, h1, h2⟩
      · exact ih c q
      · rw [e] at h1
        have rp := (ord_ok g r k).2 _ (List.mem_of_getElem? ek)
        obtain ⟨v, hv, ev⟩ := ih _ (List.mem_of_getElem? ek)
        have p := ord_pre (M := M) (G := G) k (M.rows.length - k)
        rw [show k + (M.rows.length - k) = M.rows.length by omega] at p
        have eO := pre_get p ek
        obtain ⟨w, w1, w2, w3⟩ := g.row rp.1
        have al : a < w.length := by
          rw [w3] at h1
          exact (List.getElem?_eq_some_iff.mp h1).1
        have wl := g.rl w w2
        refine ⟨v ++ [(a : Int)], lt_snoc.mpr ⟨hv, by omega, by omega⟩, ?_⟩
        rw [run_snoc, ev, plc_get (ord_ok g r _).1 eO]
        unfold Mach.next
        have lr := leastBy_row (M := M) (G := G) eO
        rw [show ((k : Nat) : Int).toNat = k by omega, show ((a : Nat) : Int).toNat = a by omega, List.getD_eq_getElem?_getD (l := (leastBy M G (ordAt M G M.rows.length)).rows), lr, Option.getD_some, List.getD_eq_getElem?_getD, List.getElem?_map, h1, h2]
        rfl
    · unfold ordAt at h
      rw [if_neg lt] at h
      exact ih c h
/-- a machine all whose states are reached and parted -/
structure Full (L : Mach) : Prop where
  good : Good L
  reach : ∀ s, L.St s → ∃ v, Lt L.ls v ∧ L.run 0 v = s
  apart : ∀ s t, L.St s → L.St t → Sim L L s t → s = t
theorem least_isfull (g : Good M) (r : Rep (EqM M) M.rows.length G) : Full (leastBy M G (ordAt M G M.rows.length)) where
  good := leastBy_good g r
  reach := fun s hs => by
    have i0 := hs.1
    have i1 := hs.2
    rw [leastBy_len] at i1
    have ei := List.getElem?_eq_getElem (show s.toNat < (ordAt M G M.rows.length).length by omega)
    obtain ⟨v, h1, h2⟩ := least_reach g r _ (Nat.le_refl _) _ (List.mem_of_getElem? ei)
    refine ⟨v, h1, ?_⟩
    rw [h2, plc_get (ord_ok g r _).1 ei]
    omega
  apart := fun s t hs ht sm => by
    refine Classical.byContradiction fun ne => ?_
    obtain ⟨u, pu⟩ := least_parts g r hs ht ne
    have b := pu.bad
    unfold Bad at b
    rw [runP_pair] at b
    exact b (sm u pu.lt)
end
/-- one move leads to another state -/
def chg (L : Mach) (p : Pr) : Mach := { L with rows := L.rows.set p.1.toNat ((L.rows.getD p.1.toNat []).set p.2.toNat (if L.next p.1 p.2 = 0 then 1 else 0)) }
section
variable {L : Mach} {p : Pr}
theorem chg_len : (chg L p).rows.length = L.rows.length := List.length_set ..
theorem chg_st {s : Int} : (chg L p).St s ↔ L.St s := by
  unfold Mach.St
  rw [chg_len]
theorem chg_out (s : Int) : (chg L p).out s = L.out s := rfl
theorem chg_good (g : Good L) (h2 : 2 ≤ L.rows.length) (hp : L.St p.1) : Good (chg L p) := by
  obtain ⟨w, e1, e2, e3⟩ := g.row hp
  refine ⟨g.l1, g.l4, g.o1, g.o6, by rw [chg_len]; exact g.s1, by rw [chg_len]; exact g.s30, by rw [chg_len]; exact g.ol, fun x hx => ?_, fun x hx z hz => ?_, g.ob⟩
  · rcases List.mem_or_eq_of_mem_set hx with h | h
    · exact g.rl x h
    · rw [h, List.length_set, e3]
      exact g.rl w e2
  · rw [chg_len]
    rcases List.mem_or_eq_of_mem_set hx with h | h
    · exact g.rb x h z hz
    · rw [h, e3] at hz
      rcases List.mem_or_eq_of_mem_set hz with q | q
      · exact g.rb w e2 z q
      · rw [q]
        split <;> omega
theorem chg_next (g : Good L) (hp : L.St p.1) (h0 : 0 ≤ p.2) (h1 : p.2 < L.ls) {s a : Int} (hs : L.St s) (ha : 0 ≤ a) : (chg L p).next s a = if (s, a) = p then (if L.next p.1 p.2 = 0 then 1 else 0) else L.next s a := by
  obtain ⟨w, e1, e2, e3⟩ := g.row hp
  have wl := g.rl w e2
  have p0 := hp.1
  have p1 := hp.2
  have s0 := hs.1
  have s1 := hs.2
  show ((L.rows.set p.1.toNat ((L.rows.getD p.1.toNat []).set p.2.toNat (if L.next p.1 p.2 = 0 then 1 else 0))).getD s.toNat []).getD a.toNat 0 = _
  generalize (if L.next p.1 p.2 = 0 then (1 : Int) else 0) = t
  rw [e3]
  by_cases es : s = p.1
  · rw [es, List.getD_eq_getElem?_getD (l := L.rows.set _ _), List.getElem?_set_self (by omega), Option.getD_some]
    by_cases ea : a = p.2
    · rw [if_pos (by rw [ea]), ea, List.getD_eq_getElem?_getD, List.getElem?_set_self (by omega)]
      rfl
    · rw [if_neg (fun z => ea (by rw [← z])), List.getD_eq_getElem?_getD, List.getElem?_set_ne (by omega), ← List.getD_eq_getElem?_getD, ← e3]
      rfl
  · rw [if_neg (fun z => es (by rw [← z])), List.getD_eq_getElem?_getD (l := L.rows.set _ _), List.getElem?_set_ne (by omega), ← List.getD_eq_getElem?_getD]
    rfl
/-- words that don't make the move lead alike -/
theorem chg_run (g : Good L) (hp : L.St p.1) (h0 : 0 ≤ p.2) (h1 : p.2 < L.ls) : ∀ v : List Int, Lt L.ls v → (∀ j a, v[j]? = some a → (L.run 0 (v.take j), a) ≠ p) → (chg L p).run 0 v = L.run 0 v := by
  intro v
  induction v using snoc_ind with
  | h0 => exact fun _ _ => rfl
  | hs v a ih =>
    intro hv no
    obtain ⟨v1, a0, a1⟩ := lt_snoc.mp hv
    have e := ih v1 fun j b hj => by
      have jl := (List.getElem?_eq_some_iff.mp hj).1
      have := no j b (by rw [List.getElem?_append_left jl]; exact hj)
      rw [List.take_append_of_le_length (by omega)] at this
      exact this
    have n := no v.length a (by simp)
    rw [List.take_append_of_le_length (Nat.le_refl _), List.take_length] at n
    rw [run_snoc, run_snoc, e, chg_next g hp h0 h1 (g.runs g.st0 v1) a0, if_neg n]
/-- a shortest word to a state -/
theorem short_word (F : Full L) {s : Int} (hs : L.St s) : ∃ v, Lt L.ls v ∧ L.run 0 v = s ∧ ∀ j, j < v.length → L.run 0 (v.take j) ≠ s := by
  obtain ⟨v, h1, h2⟩ := F.reach s hs
  have : ∀ n, ∀ v : List Int, v.length = n → Lt L.ls v → L.run 0 v = s → ∃ v, Lt L.ls v ∧ L.run 0 v = s ∧ ∀ j, j < v.length → L.run 0 (v.take j) ≠ s := by
    intro n
    induction n using Nat.strongRecOn with
    | ind n ih =>
      intro v hn h1 h2
      by_cases q : ∃ j, j < v.length ∧ L.run 0 (v.take j) = s
      · obtain ⟨j, j1, j2⟩ := q
        exact ih (v.take j).length (by rw [List.length_take]; omega) (v.take j) rfl (fun z hz => h1 z (List.mem_of_mem_take hz)) j2
      · exact ⟨v, h1, h2, fun j hj e => q ⟨j, hj, e⟩⟩
  exact this _ v rfl h1 h2
theorem sim_run {M N : Mach} (ls : M.ls = N.ls) {x y : Int} (s : Sim M N x y) {v : List Int} (hv : Lt M.ls v) : Sim M N (M.run x v) (N.run y v) := fun u hu => by
  have q := s (v ++ u) fun z hz => (List.mem_append.mp hz).elim (hv z) (hu z)
  unfold Mach.run at q ⊢
  rw [List.foldl_append, List.foldl_append] at q
  exact q
theorem sim_back {M N : Mach} {x y z : Int} (s : Sim M N x z) (t : Sim M N y z) : Sim M M x y := fun v hv => (s v hv).trans (t v hv).symm
/-- the machine with another move answers otherwise -/
theorem chg_apart (F : Full L) (h2 : 2 ≤ L.rows.length) (hp : L.St p.1) (h0 : 0 ≤ p.2) (h1 : p.2 < L.ls) : ¬ Sim L (chg L p) 0 0 := by
  intro sm
  have g := F.good
  obtain ⟨v, v1, v2, v3⟩ := short_word F hp
  have e := chg_run g hp h0 h1 v v1 fun j a hj z => v3 j (List.getElem?_eq_some_iff.mp hj).1 (by rw [← z])
  have sp := sim_run (M := L) (N := chg L p) rfl sm v1
  rw [e, v2] at sp
  have st : Sim L (chg L p) (L.next p.1 p.2) ((chg L p).next p.1 p.2) := sim_run (M := L) (N := chg L p) rfl sp (v := [p.2]) fun z hz => by
    rw [List.mem_singleton.mp hz]
    exact ⟨h0, h1⟩
  rw [chg_next g hp h0 h1 hp h0, if_pos rfl] at st
  by_cases c : L.next p.1 p.2 = 0
  · rw [if_pos c, c] at st
    have ch : ∀ i : Nat, ∃ y : Nat, i + 1 < L.rows.length → y < L.rows.length - 2 ∧ Sim L (chg L p) ((i : Int) + 1) ((y : Int) + 2) := fun i => by
      by_cases l : i + 1 < L.rows.length
      · have hi : L.St ((i : Int) + 1) := ⟨by omega, by omega⟩
        obtain ⟨u, u1, u2⟩ := F.reach _ hi
        have su := sim_run (M := L) (N := chg L p) rfl sm u1
        rw [u2] at su
        have so := chg_st.mp ((chg_good g h2 hp).runs (chg_st.mpr g.st0) u1)
        have n0 : (chg L p).run 0 u ≠ 0 := fun z => by
          rw [z] at su
          have := F.apart _ _ hi g.st0 (sim_back su sm)
          omega
        have n1 : (chg L p).run 0 u ≠ 1 := fun z => by
          rw [z] at su
          have := F.apart _ _ hi g.st0 (sim_back su st)
          omega
        have a1 := so.1
        have a2 := so.2
        refine ⟨((chg L p).run 0 u).toNat - 2, fun _ => ⟨by omega, ?_⟩⟩
        rw [show ((((chg L p).run 0 u).toNat - 2 : Nat) : Int) + 2 = (chg L p).run 0 u by omega]
        exact su
      · exact ⟨0, fun z => absurd z l⟩
    have few := nodup_few (L.rows.length - 2) ((List.range (L.rows.length - 1)).map fun i => Classical.choose (ch i)) ?_ ?_
    · rw [List.length_map, List.length_range] at few
      omega
    · refine List.pairwise_map.mpr (List.Pairwise.imp_of_mem (fun {i j} hi hj lt e => ?_) List.pairwise_lt_range)
      have hi := List.mem_range.mp hi
      have hj := List.mem_range.mp hj
      have a := (Classical.choose_spec (ch i) (by omega)).2
      have b := (Classical.choose_spec (ch j) (by omega)).2
      rw [e] at a
      have := F.apart _ _ ⟨by omega, by omega⟩ ⟨by omega, by omega⟩ (sim_back a b)
      omega
    · intro x hx
      obtain ⟨i, hi, rfl⟩ := List.mem_map.mp hx
      exact (Classical.choose_spec (ch i) (by have := List.mem_range.mp hi; omega)).1
  · rw [if_neg c] at st
    have s1 := (g.step hp h0 h1).1
    exact c (F.apart _ _ s1 g.st0 (sim_back st sm))
end
end Mz

set_option Elab.async false
set_option linter.all false
set_option maxRecDepth 100000
set_option maxHeartbeats 4000000
/-! two machines side by side; least machines that are full; how many pairs are met -/
namespace Mz
open PySem PySem.Spec PyProof.Rows L2
def mineW (k : Int) (w : List Int) : List Int := w.filter fun a => decide (a < k)
def restW (k : Int) (w : List Int) : List Int := (w.filter fun a => decide (k ≤ a)).map fun a => a - k
def brow (n : Nat) (u v : List Int) (s t : Int) : List Int := (u.map fun z => z * n + t) ++ v.map fun z => s * n + z
def beRow (A B : Mach) (i : Nat) : List Int := brow B.rows.length (A.rows.getD (i / B.rows.length) []) (B.rows.getD (i % B.rows.length) []) ((i / B.rows.length : Nat) : Int) ((i % B.rows.length : Nat) : Int)
def beOut (A B : Mach) (i : Nat) : Int := A.out ((i / B.rows.length : Nat) : Int) * B.os + B.out ((i % B.rows.length : Nat) : Int)
def beM (A B : Mach) : Mach := ⟨A.ls + B.ls, A.os * B.os, (List.range (A.rows.length * B.rows.length)).map (beRow A B), (List.range (A.rows.length * B.rows.length)).map (beOut A B)⟩
theorem pr_div {n : Nat} {s t : Int} (hs : 0 ≤ s) (ht : 0 ≤ t) (hn : t < n) : 0 ≤ s * n + t ∧ (s * n + t).toNat / n = s.toNat ∧ (s * n + t).toNat % n = t.toNat := by
  obtain ⟨a, rfl⟩ := Int.eq_ofNat_of_zero_le hs
  obtain ⟨b, rfl⟩ := Int.eq_ofNat_of_zero_le ht
  have e : ((a : Int) * (n : Int) + (b : Int)) = ((a * n + b : Nat) : Int) := by
    rw [Int.natCast_add, Int.natCast_mul]
  have hb : b < n := by omega
  rw [e, Int.toNat_natCast, Int.toNat_natCast, Int.toNat_natCast]
  refine ⟨by omega, ?_, ?_⟩
  · rw [Nat.add_comm, Nat.add_mul_div_right _ _ (by omega), Nat.div_eq_of_lt hb, Nat.zero_add]
  · rw [Nat.add_comm, Nat.add_mul_mod_self_right, Nat.mod_eq_of_lt hb]
theorem pr_lt {m n : Nat} {s t : Int} (hs : 0 ≤ s) (hm : s < m) (ht : 0 ≤ t) (hn : t < n) : (s * n + t).toNat < m * n := by
  obtain ⟨a, rfl⟩ := Int.eq_ofNat_of_zero_le hs
  obtain ⟨b, rfl⟩ := Int.eq_ofNat_of_zero_le ht
  have e : ((a : Int) * (n : Int) + (b : Int)) = ((a * n + b : Nat) : Int) := by
    rw [Int.natCast_add, Int.natCast_mul]
  have hb : b < n := by omega
  have ha : a + 1 ≤ m := by omega
  have := Nat.mul_le_mul_right n ha
  rw [Nat.add_mul, Nat.one_mul] at this
  rw [e, Int.toNat_natCast]
  omega
theorem mix_inj {a b c d m : Int} (b0 : 0 ≤ b) (b1 : b < m) (d0 : 0 ≤ d) (d1 : d < m) (h : a * m + b = c * m + d) : a = c ∧ b = d := by
  have e1 : (b + a * m) % m = b := by rw [Int.add_mul_emod_self_right]; exact Int.emod_eq_of_lt b0 b1
  have e2 : (d + c * m) % m = d := by rw [Int.add_mul_emod_self_right]; exact Int.emod_eq_of_lt d0 d1
  have bd : b = d := by
    rw [← e1, ← e2, Int.add_comm b, Int.add_comm d, h]
  subst bd
  exact ⟨Int.eq_of_mul_eq_mul_right (by omega) (by omega : a * m = c * m), rfl⟩
theorem st_nat {M : Mach} {i : Nat} (h : i < M.rows.length) : M.St (i : Int) := ⟨Int.natCast_nonneg _, Int.ofNat_lt.mpr h⟩
section
variable {A B : Mach}
theorem be_len : (beM A B).rows.length = A.rows.length * B.rows.length := by
  show ((List.range _).map _).length = _
  rw [List.length_map, List.length_range]
theorem be_st {s t : Int} (hs : A.St s) (ht : B.St t) : (beM A B).St (s * B.rows.length + t) := by
  have h1 := pr_div hs.1 ht.1 ht.2
  have h2 := pr_lt hs.1 hs.2 ht.1 ht.2
  refine ⟨h1.1, ?_⟩
  rw [be_len]
  have := h1.1
  omega
theorem be_row {s t : Int} (hs : A.St s) (ht : B.St t) : (beM A B).rows.getD (s * B.rows.length + t).toNat [] = brow B.rows.length (A.rows.getD s.toNat []) (B.rows.getD t.toNat []) s t := by
  have h1 := pr_div hs.1 ht.1 ht.2
  have h2 := pr_lt hs.1 hs.2 ht.1 ht.2
  show ((List.range _).map _).getD _ _ = _
  rw [List.getD_eq_getElem?_getD, List.getElem?_map, List.getElem?_range h2]
  show beRow A B _ = _
  unfold beRow
  rw [h1.2.1, h1.2.2, Int.toNat_of_nonneg hs.1, Int.toNat_of_nonneg ht.1]
theorem be_out {s t : Int} (hs : A.St s) (ht : B.St t) : (beM A B).out (s * B.rows.length + t) = A.out s * B.os + B.out t := by
  have h1 := pr_div hs.1 ht.1 ht.2
  have h2 := pr_lt hs.1 hs.2 ht.1 ht.2
  show ((List.range _).map _).getD _ _ = _
  rw [List.getD_eq_getElem?_getD, List.getElem?_map, List.getElem?_range h2]
  show beOut A B _ = _
  unfold beOut
  rw [h1.2.1, h1.2.2, Int.toNat_of_nonneg hs.1, Int.toNat_of_nonneg ht.1]
theorem be_next1 (gA : Good A) (gB : Good B) {s t a : Int} (hs : A.St s) (ht : B.St t) (h0 : 0 ≤ a) (h1 : a < A.ls) : (beM A B).next (s * B.rows.length + t) a = A.next s a * B.rows.length + t := by
  show ((beM A B).rows.getD _ []).getD _ _ = _
  rw [be_row hs ht]
  obtain ⟨w, e1, e2, e3⟩ := gA.row hs
  have wl := gA.rl w e2
  unfold brow
  rw [e3, List.getD_eq_getElem?_getD, List.getElem?_append_left (by rw [List.length_map]; omega), List.getElem?_map]
  have lt : a.toNat < w.length := by omega
  unfold Mach.next
  rw [e3, List.getD_eq_getElem?_getD, List.getElem?_eq_getElem lt]
  rfl
theorem be_next2 (gA : Good A) (gB : Good B) {s t a : Int} (hs : A.St s) (ht : B.St t) (h0 : A.ls ≤ a) (h1 : a < A.ls + B.ls) : (beM A B).next (s * B.rows.length + t) a = s * B.rows.length + B.next t (a - A.ls) := by
  show ((beM A B).rows.getD _ []).getD _ _ = _
  rw [be_row hs ht]
  obtain ⟨w, e1, e2, e3⟩ := gA.row hs
  have wl := gA.rl w e2
  obtain ⟨u, f1, f2, f3⟩ := gB.row ht
  have ul := gB.rl u f2
  have := gA.l1
  unfold brow
  rw [e3, f3, List.getD_eq_getElem?_getD, List.getElem?_append_right (by rw [List.length_map]; omega), List.length_map, List.getElem?_map]
  have ei : a.toNat - w.length = (a - A.ls).toNat := by omega
  have lt : (a - A.ls).toNat < u.length := by omega
  unfold Mach.next
  rw [ei, f3, List.getD_eq_getElem?_getD, List.getElem?_eq_getElem lt]
  rfl
theorem be_run (gA : Good A) (gB : Good B) : ∀ (w : List Int) (s t : Int), A.St s → B.St t → Lt (A.ls + B.ls) w →
    A.St (A.run s (mineW A.ls w)) ∧ B.St (B.run t (restW A.ls w)) ∧ (beM A B).run (s * B.rows.length + t) w = A.run s (mineW A.ls w) * B.rows.length + B.run t (restW A.ls w)
  | [], s, t, hs, ht, _ => ⟨hs, ht, rfl⟩
  | a :: w, s, t, hs, ht, hw => by
    have ha := hw a List.mem_cons_self
    have hw' : Lt (A.ls + B.ls) w := fun z hz => hw z (List.mem_cons_of_mem _ hz)
    show _ ∧ _ ∧ (beM A B).run ((beM A B).next _ a) w = _
    by_cases c : a < A.ls
    · have e1 : mineW A.ls (a :: w) = a :: mineW A.ls w := by
        unfold mineW
        rw [List.filter_cons_of_pos (by simpa using c)]
      have e2 : restW A.ls (a :: w) = restW A.ls w := by
        unfold restW
        rw [List.filter_cons_of_neg (by simpa using c)]
      rw [e1, e2, be_next1 gA gB hs ht ha.1 c]
      exact be_run gA gB w _ t (gA.step hs ha.1 c).1 ht hw'
    · have e1 : mineW A.ls (a :: w) = mineW A.ls w := by
        unfold mineW
        rw [List.filter_cons_of_neg (by simpa using c)]
      have e2 : restW A.ls (a :: w) = (a - A.ls) :: restW A.ls w := by
        unfold restW
        rw [List.filter_cons_of_pos (by simp only [decide_eq_true_eq]; omega), List.map_cons]
      rw [e1, e2, be_next2 gA gB hs ht (by omega) ha.2]
      exact be_run gA gB w s _ hs (gB.step ht (by omega) (by omega)).1 hw'
theorem mine_lt {k m : Int} {w : List Int} (h : Lt m w) : Lt k (mineW k w) := fun z hz => by
  have := List.mem_filter.mp hz
  exact ⟨(h z this.1).1, by simpa using this.2⟩
theorem rest_lt {k m : Int} {w : List Int} (h : Lt (k + m) w) : Lt m (restW k w) := fun z hz => by
  obtain ⟨y, hy, rfl⟩ := List.mem_map.mp hz
  have := List.mem_filter.mp hy
  have h1 := h y this.1
  have h2 : k ≤ y := by simpa using this.2
  omega
theorem mine_all {k : Int} {w : List Int} (h : Lt k w) : mineW k w = w ∧ restW k w = [] := by
  refine ⟨List.filter_eq_self.mpr fun a ha => by simpa using (h a ha).2, ?_⟩
  unfold restW
  rw [List.filter_eq_nil_iff.mpr fun a ha => by have := (h a ha).2; simp only [decide_eq_true_eq]; omega]
  rfl
theorem rest_all {k m : Int} {w : List Int} (h : Lt m w) : mineW k (w.map fun z => z + k) = [] ∧ restW k (w.map fun z => z + k) = w := by
  have hh : ∀ a ∈ w.map fun z => z + k, k ≤ a := fun a ha => by
    obtain ⟨y, hy, rfl⟩ := List.mem_map.mp ha
    have := (h y hy).1
    omega
  refine ⟨List.filter_eq_nil_iff.mpr fun a ha => by have := hh a ha; simp only [decide_eq_true_eq]; omega, ?_⟩
  unfold restW
  rw [List.filter_eq_self.mpr fun a ha => by simpa using hh a ha, List.map_map]
  have : ((fun a => a - k) ∘ fun z : Int => z + k) = id := by
    funext z
    show z + k - k = z
    omega
  rw [this, List.map_id]
theorem be_good (gA : Good A) (gB : Good B) (hl : A.ls + B.ls ≤ 4) (ho : A.os * B.os ≤ 6) (hn : A.rows.length * B.rows.length ≤ 30) : Good (beM A B) := by
  have a1 := gA.s1
  have b1 := gB.s1
  have div : ∀ i, i < A.rows.length * B.rows.length → i / B.rows.length < A.rows.length ∧ i % B.rows.length < B.rows.length := fun i hi =>
    ⟨Nat.div_lt_of_lt_mul (by rw [Nat.mul_comm]; exact hi), Nat.mod_lt _ (by omega)⟩
  refine ⟨?_, hl, ?_, ho, ?_, ?_, ?_, fun w hw => ?_, fun w hw z hz => ?_, fun z hz => ?_⟩
  · have := gA.l1
    have := gB.l1
    show 1 ≤ A.ls + B.ls
    omega
  · exact Int.mul_le_mul (a := 1) (b := 1) (c := A.os) (d := B.os) gA.o1 gB.o1 (by decide) (by have := gA.o1; omega)
  · rw [be_len]
    exact Nat.mul_le_mul a1 b1
  · rw [be_len]
    exact hn
  · rw [be_len]
    show ((List.range _).map _).length = _
    rw [List.length_map, List.length_range]
  · obtain ⟨i, hi, rfl⟩ := List.mem_map.mp hw
    have hi := div i (List.mem_range.mp hi)
    have sA : A.St ((i / B.rows.length : Nat) : Int) := st_nat hi.1
    have sB : B.St ((i % B.rows.length : Nat) : Int) := st_nat hi.2
    obtain ⟨w, e1, e2, e3⟩ := gA.row sA
    obtain ⟨u, f1, f2, f3⟩ := gB.row sB
    rw [Int.toNat_natCast] at e3 f3
    have wl := gA.rl w e2
    have ul := gB.rl u f2
    unfold beRow brow
    rw [e3, f3, List.length_append, List.length_map, List.length_map]
    show _ = A.ls + B.ls
    omega
  · obtain ⟨i, hi, rfl⟩ := List.mem_map.mp hw
    have hi := div i (List.mem_range.mp hi)
    have sA : A.St ((i / B.rows.length : Nat) : Int) := st_nat hi.1
    have sB : B.St ((i % B.rows.length : Nat) : Int) := st_nat hi.2
    obtain ⟨w, e1, e2, e3⟩ := gA.row sA
    obtain ⟨u, f1, f2, f3⟩ := gB.row sB
    rw [Int.toNat_natCast] at e3 f3
    unfold beRow brow at hz
    rw [e3, f3] at hz
    rcases List.mem_append.mp hz with q | q
    · obtain ⟨y, hy, rfl⟩ := List.mem_map.mp q
      have := gA.rb w e2 y hy
      exact be_st (A := A) (B := B) ⟨this.1, this.2⟩ sB
    · obtain ⟨y, hy, rfl⟩ := List.mem_map.mp q
      have := gB.rb u f2 y hy
      exact be_st (A := A) (B := B) sA ⟨this.1, this.2⟩
  · obtain ⟨i, hi, rfl⟩ := List.mem_map.mp hz
    have hi := div i (List.mem_range.mp hi)
    have oA := (gA.outp (s := ((i / B.rows.length : Nat) : Int)) (st_nat hi.1)).2
    have oB := (gB.outp (s := ((i % B.rows.length : Nat) : Int)) (st_nat hi.2)).2
    unfold beOut
    generalize A.out _ = x at *
    generalize B.out _ = y at *
    show 0 ≤ _ ∧ _ < A.os * B.os
    have h1 : 0 ≤ x * B.os := Int.mul_nonneg oA.1 (by omega)
    have h2 : (x + 1) * B.os ≤ A.os * B.os := Int.mul_le_mul_of_nonneg_right (by omega) (by omega)
    rw [Int.add_mul, Int.one_mul] at h2
    omega
theorem be_split (gB : Good B) {s : Int} (h : (beM A B).St s) : ∃ x y, A.St x ∧ B.St y ∧ s = x * B.rows.length + y := by
  have h0 := h.1
  have h1 := h.2
  rw [be_len] at h1
  have b1 := gB.s1
  have lt : s.toNat < A.rows.length * B.rows.length := by omega
  have d1 : s.toNat / B.rows.length < A.rows.length := Nat.div_lt_of_lt_mul (by rw [Nat.mul_comm]; exact lt)
  have d2 : s.toNat % B.rows.length < B.rows.length := Nat.mod_lt _ (by omega)
  refine ⟨((s.toNat / B.rows.length : Nat) : Int), ((s.toNat % B.rows.length : Nat) : Int), st_nat d1, st_nat d2, ?_⟩
  have := Nat.div_add_mod s.toNat B.rows.length
  rw [← Int.natCast_mul, ← Int.natCast_add, Nat.mul_comm, this]
  omega
theorem be_full (fA : Full A) (fB : Full B) (hl : A.ls + B.ls ≤ 4) (ho : A.os * B.os ≤ 6) (hn : A.rows.length * B.rows.length ≤ 30) : Full (beM A B) where
  good := be_good fA.good fB.good hl ho hn
  reach := fun s hs => by
    obtain ⟨x, y, hx, hy, rfl⟩ := be_split fB.good hs
    obtain ⟨v, v1, v2⟩ := fA.reach x hx
    obtain ⟨u, u1, u2⟩ := fB.reach y hy
    have lt : Lt (A.ls + B.ls) (v ++ u.map fun z => z + A.ls) := fun z hz => by
      have := fA.good.l1
      have := fB.good.l1
      rcases List.mem_append.mp hz with q | q
      · have := v1 z q
        omega
      · obtain ⟨q1, hq, rfl⟩ := List.mem_map.mp q
        have := u1 q1 hq
        omega
    refine ⟨_, lt, ?_⟩
    have e0 : (0 : Int) = 0 * B.rows.length + 0 := by omega
    have := (be_run fA.good fB.good _ 0 0 fA.good.st0 fB.good.st0 lt).2.2
    rw [← e0] at this
    rw [this]
    have m1 := mine_all v1
    have m2 := rest_all (k := A.ls) u1
    have a1 : mineW A.ls (v ++ u.map fun z => z + A.ls) = v := by
      unfold mineW at m1 m2 ⊢
      rw [List.filter_append, m1.1, m2.1, List.append_nil]
    have a2 : restW A.ls (v ++ u.map fun z => z + A.ls) = u := by
      have q1 := m1.2
      have q2 := m2.2
      unfold restW at q1 q2 ⊢
      rw [List.filter_append, List.map_append, q1, q2, List.nil_append]
    rw [a1, a2, v2, u2]
  apart := fun s t hs ht sm => by
    obtain ⟨x, y, hx, hy, rfl⟩ := be_split fB.good hs
    obtain ⟨x2, y2, hx2, hy2, rfl⟩ := be_split fB.good ht
    have la := fA.good.l1
    have lb := fB.good.l1
    have both : ∀ w, Lt (A.ls + B.ls) w → A.out (A.run x (mineW A.ls w)) = A.out (A.run x2 (mineW A.ls w)) ∧ B.out (B.run y (restW A.ls w)) = B.out (B.run y2 (restW A.ls w)) := fun w hw => by
      have h := sm w hw
      obtain ⟨p1, p2, p3⟩ := be_run fA.good fB.good w x y hx hy hw
      obtain ⟨q1, q2, q3⟩ := be_run fA.good fB.good w x2 y2 hx2 hy2 hw
      rw [p3, q3, be_out p1 p2, be_out q1 q2] at h
      have o1 := (fB.good.outp p2).2
      have o2 := (fB.good.outp q2).2
      exact mix_inj o1.1 o1.2 o2.1 o2.2 h
    have ex : x = x2 := fA.apart x x2 hx hx2 fun v hv => by
      have := (both v fun z hz => by have := hv z hz; omega).1
      rwa [(mine_all hv).1] at this
    have ey : y = y2 := fB.apart y y2 hy hy2 fun v hv => by
      have := (both (v.map fun z => z + A.ls) fun z hz => by
        obtain ⟨q, hq, rfl⟩ := List.mem_map.mp hz
        have := hv q hq
        omega).2
      rwa [(rest_all hv).2] at this
    rw [ex, ey]
end
section
variable {M : Mach} {G : List Int}
theorem full_cls (F : Full M) (r : Rep (EqM M) M.rows.length G) {s : Int} (h : M.St s) : cls G s = s := by
  have g := F.good
  have := cls_rp g r h
  exact (F.apart s _ h this.1.1 this.2).symm
theorem full_ord (F : Full M) (r : Rep (EqM M) M.rows.length G) {s : Int} (h : M.St s) : s ∈ ordAt M G M.rows.length := by
  have g := F.good
  obtain ⟨v, hv, e⟩ := F.reach s h
  have run : ∀ (v : List Int) (s : Int), M.St s → s ∈ ordAt M G M.rows.length → Lt M.ls v → M.run s v ∈ ordAt M G M.rows.length := by
    intro v
    induction v with
    | nil => exact fun _ _ h _ => h
    | cons a v ih =>
      intro s hs h hv
      have ha := hv a List.mem_cons_self
      obtain ⟨s2, w, e1, e2⟩ := g.step hs ha.1 ha.2
      have := ord_closed g r h (z := M.next s a) (by
        rw [List.getD_eq_getElem?_getD, e1]
        exact List.mem_of_getElem? e2)
      rw [full_cls F r s2] at this
      exact ih _ s2 this fun z hz => hv z (List.mem_cons_of_mem _ hz)
  have p := ord_pre (M := M) (G := G) 0 M.rows.length
  rw [Nat.zero_add] at p
  have : cls G 0 ∈ ordAt M G M.rows.length := p.subset List.mem_cons_self
  rw [full_cls F r g.st0] at this
  rw [← e]
  exact run v 0 g.st0 this hv
theorem full_len (F : Full M) (r : Rep (EqM M) M.rows.length G) : (ordAt M G M.rows.length).length = M.rows.length := by
  refine Nat.le_antisymm (ord_len F.good r _) ?_
  have n : ((List.range M.rows.length).map fun i : Nat => (i : Int)).Nodup := by
    refine List.Pairwise.map _ ?_ List.nodup_range
    intro a b h e
    exact h (by omega)
  have := n.length_le_of_subset (l₂ := ordAt M G M.rows.length) fun z hz => by
    obtain ⟨i, hi, rfl⟩ := List.mem_map.mp hz
    have := List.mem_range.mp hi
    exact full_ord F r ⟨by omega, by omega⟩
  rwa [List.length_map, List.length_range] at this
/-- the numbers of a machine's states -/
def ids (n : Nat) : List Int := (List.range n).map fun i : Nat => (i : Int)
theorem ids_len {n : Nat} : (ids n).length = n := by
  unfold ids
  rw [List.length_map, List.length_range]
theorem ids_get {n i : Nat} (h : i < n) : (ids n)[i]? = some (i : Int) := by
  unfold ids
  rw [List.getElem?_map, List.getElem?_range h]
  rfl
theorem full_rep (F : Full M) : Rep (EqM M) M.rows.length (ids M.rows.length) := by
  refine ⟨ids_len, fun i hi => ⟨i, ids_get hi, Nat.le_refl _, fun v hv => rfl, fun j hj e => ?_⟩⟩
  have := F.apart (i : Int) (j : Int) ⟨by omega, by omega⟩ ⟨by omega, by omega⟩ e
  omega
/-- the states of a least machine are numbered as they are met -/
theorem least_ids (g : Good M) (r : Rep (EqM M) M.rows.length G) {L : Mach} (e : L = leastBy M G (ordAt M G M.rows.length)) : ordAt L (ids L.rows.length) L.rows.length = ids L.rows.length := by
  have F : Full L := by rw [e]; exact least_isfull g r
  have sim : Sim M L 0 0 := by rw [e]; exact leastBy_sim g r
  have ls : M.ls = L.ls := by rw [e]; rfl
  have rF := full_rep F
  have lL : L.rows.length = (ordAt M G M.rows.length).length := by rw [e, leastBy_len]
  have le := ord_len g r M.rows.length
  have b := both_ord ls g F.good r rF sim M.rows.length
  have w : ordAt L (ids L.rows.length) M.rows.length = ordAt L (ids L.rows.length) L.rows.length := ord_whole F.good rF (by
    have := ord_len F.good rF M.rows.length
    omega)
  rw [w] at b
  have fl := full_len F rF
  refine List.ext_getElem? fun i => ?_
  by_cases hi : i < L.rows.length
  · rw [ids_get hi]
    obtain ⟨c, ei⟩ : ∃ c, (ordAt M G M.rows.length)[i]? = some c := ⟨_, List.getElem?_eq_getElem (show i < (ordAt M G M.rows.length).length by omega)⟩
    obtain ⟨d, hd, h1, h2, h3⟩ := paired_get b ei
    rw [hd]
    have s2 : Sim M L c (i : Int) := fun v hv => by
      rw [e]
      exact leastBy_walk g r v _ _ i hv h1.1 h1.2 ei
    have := F.apart d (i : Int) h2.1 ⟨by omega, by omega⟩ (fun v hv => by
      rw [← ls] at hv
      exact (h3 v hv).symm.trans (s2 v hv))
    rw [this]
  · rw [List.getElem?_eq_none (by rw [fl]; omega), List.getElem?_eq_none (by rw [ids_len]; omega)]
theorem ord_ind {S : Int → Prop} (h0 : S (cls G 0)) (h : ∀ c, S c → ∀ z ∈ M.rows.getD c.toNat [], S (cls G z)) : ∀ k, ∀ c ∈ ordAt M G k, S c
  | 0, c, hc => by
    rw [show ordAt M G 0 = [cls G 0] from rfl] at hc
    rw [List.mem_singleton.mp hc]
    exact h0
  | k + 1, c, hc => by
    unfold ordAt at hc
    by_cases lt : k < (ordAt M G k).length
    · rw [if_pos lt] at hc
      rcases ordStep_from hc with q | ⟨a, z, q1, q2⟩
      · exact ord_ind h0 h k c q
      · rw [q2]
        refine h _ (ord_ind h0 h k ((ordAt M G k).getD k 0) ?_) z (List.mem_of_getElem? q1)
        rw [List.getD_eq_getElem?_getD, List.getElem?_eq_getElem lt]
        exact List.getElem_mem lt
    · rw [if_neg lt] at hc
      exact ord_ind h0 h k c hc
end
/-- the pairs of both orders -/
def prodL (u v : List Int) : List Pr := u.flatMap fun c => v.map fun d => (c, d)
theorem prodL_mem {u v : List Int} {p : Pr} : p ∈ prodL u v ↔ p.1 ∈ u ∧ p.2 ∈ v := by
  unfold prodL
  rw [List.mem_flatMap]
  constructor
  · rintro ⟨c, hc, hp⟩
    obtain ⟨d, hd, rfl⟩ := List.mem_map.mp hp
    exact ⟨hc, hd⟩
  · rintro ⟨h1, h2⟩
    exact ⟨p.1, h1, List.mem_map.mpr ⟨p.2, h2, rfl⟩⟩
theorem prodL_len {u v : List Int} : (prodL u v).length = u.length * v.length := by
  unfold prodL
  induction u with
  | nil => simp
  | cons c u ih =>
    rw [List.flatMap_cons, List.length_append, List.length_map, ih, List.length_cons, Nat.add_mul, Nat.one_mul, Nat.add_comm]
theorem prodL_nodup {u v : List Int} (hu : u.Nodup) (hv : v.Nodup) : (prodL u v).Nodup := by
  unfold prodL
  induction u with
  | nil => exact List.nodup_nil
  | cons c u ih =>
    rw [List.flatMap_cons]
    have hc := List.nodup_cons.mp hu
    refine List.nodup_append.mpr ⟨List.Pairwise.map _ (fun a b h e => h (by injection e)) hv, ih hc.2, ?_⟩
    rintro p hp q hq rfl
    obtain ⟨d, hd, rfl⟩ := List.mem_map.mp hp
    have := (prodL_mem (u := u) (v := v)).mp hq
    exact hc.1 this.1
section
variable {A B : Mach} {GA GB : List Int}
theorem pairs_all {D : List Pr} (h0 : (cls GA 0, cls GB 0) ∈ D) (h1 : ∀ p ∈ D, ∀ z ∈ A.rows.getD p.1.toNat [], (cls GA z, p.2) ∈ D) (h2 : ∀ p ∈ D, ∀ z ∈ B.rows.getD p.2.toNat [], (p.1, cls GB z) ∈ D) :
    ∀ p ∈ prodL (ordAt A GA A.rows.length) (ordAt B GB B.rows.length), p ∈ D := by
  intro p hp
  obtain ⟨p1, p2⟩ := prodL_mem.mp hp
  have hB : ∀ d ∈ ordAt B GB B.rows.length, (cls GA 0, d) ∈ D := ord_ind (S := fun d => (cls GA 0, d) ∈ D) h0 (fun c hc z hz => h2 _ hc z hz) _
  exact ord_ind (S := fun c => (c, p.2) ∈ D) (hB _ p2) (fun c hc z hz => h1 _ hc z hz) _ p.1 p1
theorem pairs_few {D : List Pr} (n : D.Nodup) (h : ∀ p ∈ D, p ∈ prodL (ordAt A GA A.rows.length) (ordAt B GB B.rows.length)) : D.length ≤ (ordAt A GA A.rows.length).length * (ordAt B GB B.rows.length).length := by
  rw [← prodL_len]
  exact n.length_le_of_subset h
theorem pairs_len (gA : Good A) (gB : Good B) (rA : Rep (EqM A) A.rows.length GA) (rB : Rep (EqM B) B.rows.length GB) {D : List Pr} (n : D.Nodup) (h : ∀ p ∈ D, p ∈ prodL (ordAt A GA A.rows.length) (ordAt B GB B.rows.length))
    (h0 : (cls GA 0, cls GB 0) ∈ D) (h1 : ∀ p ∈ D, ∀ z ∈ A.rows.getD p.1.toNat [], (cls GA z, p.2) ∈ D) (h2 : ∀ p ∈ D, ∀ z ∈ B.rows.getD p.2.toNat [], (p.1, cls GB z) ∈ D) :
    D.length = (ordAt A GA A.rows.length).length * (ordAt B GB B.rows.length).length := by
  refine Nat.le_antisymm (pairs_few n h) ?_
  rw [← prodL_len]
  exact (prodL_nodup (ord_ok gA rA _).1 (ord_ok gB rB _).1).length_le_of_subset (pairs_all h0 h1 h2)
end
/-- a ring of states -/
def ringM (n : Nat) : Mach := ⟨1, 2, (List.range n).map fun k : Nat => [((k : Int) + 1) % (n : Int)], (List.range n).map fun k : Nat => if k = 0 then 1 else 0⟩
def rings (n : Nat) : Bool := (List.range n).all (fun s => (ringM n).run 0 (List.replicate s 0) = (s : Int)) &&
  (List.range n).all fun s => (List.range n).all fun t => decide (s = t) || !decide ((ringM n).out ((ringM n).run (s : Int) (List.replicate (n - s) 0)) = (ringM n).out ((ringM n).run (t : Int) (List.replicate (n - s) 0)))
theorem ring_full {n : Nat} (h : rings n = true) (h1 : 1 ≤ n) (h2 : n ≤ 30) : Full (ringM n) := by
  have len : (ringM n).rows.length = n := by
    show ((List.range n).map _).length = n
    rw [List.length_map, List.length_range]
  have zl : ∀ k, Lt 1 (List.replicate k (0 : Int)) := fun k z hz => by
    rw [List.eq_of_mem_replicate hz]
    decide
  unfold rings at h
  rw [Bool.and_eq_true, List.all_eq_true, List.all_eq_true] at h
  refine ⟨⟨(by show (1 : Int) ≤ 1; decide), (by show (1 : Int) ≤ 4; decide), (by show (1 : Int) ≤ 2; decide), (by show (2 : Int) ≤ 6; decide), by rw [len]; exact h1, by rw [len]; exact h2, ?_, fun w hw => ?_, fun w hw z hz => ?_, fun z hz => ?_⟩, fun s hs => ?_, fun s t hs ht sm => ?_⟩
  · rw [len]
    show ((List.range n).map _).length = n
    rw [List.length_map, List.length_range]
  · obtain ⟨k, _, rfl⟩ := List.mem_map.mp hw
    rfl
  · rw [len]
    obtain ⟨k, _, rfl⟩ := List.mem_map.mp hw
    rw [List.mem_singleton.mp hz]
    exact ⟨Int.emod_nonneg _ (by omega), Int.emod_lt_of_pos _ (by omega)⟩
  · obtain ⟨k, _, rfl⟩ := List.mem_map.mp hz
    show 0 ≤ (if k = 0 then (1 : Int) else 0) ∧ (if k = 0 then (1 : Int) else 0) < 2
    split <;> decide
  · have s0 := hs.1
    have s1 := hs.2
    rw [len] at s1
    have := h.1 s.toNat (List.mem_range.mpr (by omega))
    refine ⟨_, zl s.toNat, ?_⟩
    have := of_decide_eq_true this
    rw [this]
    omega
  · have s0 := hs.1
    have s1 := hs.2
    have t0 := ht.1
    have t1 := ht.2
    rw [len] at s1 t1
    have := List.all_eq_true.mp (h.2 s.toNat (List.mem_range.mpr (by omega))) t.toNat (List.mem_range.mpr (by omega))
    rw [Int.toNat_of_nonneg s0, Int.toNat_of_nonneg t0, decide_eq_true (sm _ (zl _))] at this
    have := of_decide_eq_true (by simpa using this : decide (s.toNat = t.toNat) = true)
    omega
theorem full5 : Full (ringM 5) := ring_full (by decide +kernel) (by decide) (by decide)
theorem full6 : Full (ringM 6) := ring_full (by decide +kernel) (by decide) (by decide)
theorem full7 : Full (ringM 7) := ring_full (by decide +kernel) (by decide) (by decide)
end Mz

set_option Elab.async false
set_option linter.all false
set_option maxRecDepth 100000
set_option maxHeartbeats 4000000
/-! a machine under work: its rows in a list, its outputs in another -/
namespace Mz
open PySem PySem.Spec PyProof.Rows L2
theorem same_seq {H H' : Hp} {K : PySem.W.Frag} {a : Addr} {xs : List V} (k : Same H H') (h : SqL K H a xs) : SqL K H' a xs := by
  rcases h with (h | ⟨o, h⟩) | h
  · exact .inl (.inl (k _ _ h))
  · exact .inl (.inr ⟨o, k _ _ h⟩)
  · exact .inr h
theorem at_get {xs : List V} {i : Nat} {v : V} (h : xs[i]? = some v) : atI xs (i : Int) = some v := by
  have := atI_get? (f := fun x : V => x) (ns := xs) (i := (i : Int)) (z := v) (by omega) (by rw [Int.toNat_natCast]; exact h)
  rwa [List.map_id'] at this
/-- a list of tuples of ints -/
def Rws (H : Hp) (D : Addr) (rows : List (List Int)) : Prop := ∃ rs : List Addr, H D = some (.lst (rs.map V.ref)) ∧ rs.length = rows.length ∧ ∀ (i : Nat) (r : Addr) (w : List Int), rs[i]? = some r → rows[i]? = some w → IT H r w
theorem Rws.on {H H2 : Hp} {D : Addr} {rows : List (List Int)} (h : Rws H D rows) (s : Same H H2) : Rws H2 D rows := let ⟨rs, a, b, c⟩ := h; ⟨rs, s _ _ a, b, fun i r w p q => s _ _ (c i r w p q)⟩
theorem Rws.nil {H : Hp} {D : Addr} (h : H D = some (.lst [])) : Rws H D [] := ⟨[], h, rfl, fun i r w p => by simp at p⟩
theorem Rws.push {H : Hp} {D : Addr} {rows : List (List Int)} (h : Rws H D rows) {r : Addr} {w : List Int} (hr : IT H r w) : ∃ acc, H D = some (.lst acc) ∧ acc.length = rows.length ∧ Rws (upd H D (.lst (acc ++ [.ref r]))) D (rows ++ [w]) := by
  obtain ⟨rs, a, b, c⟩ := h
  have nt : ∀ {x : Addr} {u : List Int}, IT H x u → x ≠ D := fun h z => by
    unfold IT at h
    rw [z, a] at h
    cases h
  refine ⟨_, a, by rw [List.length_map, b], rs ++ [r], by rw [upd_same, List.map_append]; rfl, by rw [List.length_append, List.length_append, b]; rfl, fun i x u p q => ?_⟩
  by_cases lt : i < rs.length
  · rw [List.getElem?_append_left lt] at p
    rw [List.getElem?_append_left (by omega)] at q
    have := c i x u p q
    exact (upd_ne (nt this)).trans this
  · rw [List.getElem?_append_right (by omega)] at p
    rw [List.getElem?_append_right (by omega)] at q
    have i0 : i = rs.length := by
      have := (List.getElem?_eq_some_iff.mp p).1
      simp at this
      omega
    subst i0
    rw [Nat.sub_self] at p
    rw [b, Nat.sub_self] at q
    cases p
    cases q
    exact (upd_ne (nt hr)).trans hr
structure Mk2 (H H' : Hp) (l1 l2 : Addr) (rows : List (List Int)) (os : List Int) : Prop where
  same : Same H H'
  f1 : H l1 = none
  f2 : H l2 = none
  ne : l1 ≠ l2
  e1 : ∃ rs : List Addr, H' l1 = some (.lst (rs.map V.ref)) ∧ rs.length = rows.length ∧ ∀ (i : Nat) (r : Addr) (w : List Int), rs[i]? = some r → rows[i]? = some w → IT H' r w
  e2 : H' l2 = some (.lst (os.map V.int))
section
variable {H H' H2 : Hp} {l1 l2 : Addr} {rows : List (List Int)} {os : List Int}
theorem Mk2.on (m : Mk2 H H' l1 l2 rows os) (s : Same H' H2) : Mk2 H H2 l1 l2 rows os :=
  ⟨m.same.trans s, m.f1, m.f2, m.ne, let ⟨rs, a, b, c⟩ := m.e1; ⟨rs, s _ _ a, b, fun i r w p q => s _ _ (c i r w p q)⟩, s _ _ m.e2⟩
theorem Mk2.start (h1 : H l1 = none) (h2 : (upd H l1 (.lst [])) l2 = none) : Mk2 H (upd (upd H l1 (.lst [])) l2 (.lst [])) l1 l2 [] [] := by
  have n : l1 ≠ l2 := fun z => by
    rw [← z, upd_same] at h2
    cases h2
  have s1 := same_upd (o := .lst []) (Same.refl H) h1
  refine ⟨same_upd s1 h2, h1, s1.free h2, n, ⟨[], ?_, rfl, fun i r w p => by simp at p⟩, upd_same⟩
  rw [upd_ne n]
  exact upd_same
theorem Mk2.row (m : Mk2 H H' l1 l2 rows os) {r : Addr} {w : List Int} (hr : IT H' r w) : ∃ acc, H' l1 = some (.lst acc) ∧ acc.length = rows.length ∧ Mk2 H (upd H' l1 (.lst (acc ++ [.ref r]))) l1 l2 (rows ++ [w]) os := by
  obtain ⟨rs, a, b, c⟩ := m.e1
  have nt : ∀ {x : Addr} {u : List Int}, IT H' x u → x ≠ l1 := fun h z => by
    unfold IT at h
    rw [z, a] at h
    cases h
  refine ⟨_, a, by rw [List.length_map, b], ⟨same_set m.same m.f1, m.f1, m.f2, m.ne, ⟨rs ++ [r], ?_, by rw [List.length_append, List.length_append, b]; rfl, fun i x u p q => ?_⟩, by rw [upd_ne m.ne.symm]; exact m.e2⟩⟩
  · rw [upd_same, List.map_append]
    rfl
  · by_cases lt : i < rs.length
    · rw [List.getElem?_append_left lt] at p
      rw [List.getElem?_append_left (by omega)] at q
      have := c i x u p q
      exact (upd_ne (nt this)).trans this
    · rw [List.getElem?_append_right (by omega)] at p
      rw [List.getElem?_append_right (by omega)] at q
      have i0 : i = rs.length := by
        have := (List.getElem?_eq_some_iff.mp p).1
        simp at this
        omega
      subst i0
      rw [Nat.sub_self] at p
      rw [b, Nat.sub_self] at q
      cases p
      cases q
      exact (upd_ne (nt hr)).trans hr
theorem Mk2.out (m : Mk2 H H' l1 l2 rows os) (z : Int) : Mk2 H (upd H' l2 (.lst (os.map V.int ++ [.int z]))) l1 l2 rows (os ++ [z]) := by
  obtain ⟨rs, a, b, c⟩ := m.e1
  have nt : ∀ {x : Addr} {u : List Int}, IT H' x u → x ≠ l2 := fun h z => by
    unfold IT at h
    rw [z, m.e2] at h
    cases h
  refine ⟨same_set m.same m.f2, m.f1, m.f2, m.ne, ⟨rs, by rw [upd_ne m.ne]; exact a, b, fun i x u p q => ?_⟩, ?_⟩
  · have := c i x u p q
    exact (upd_ne (nt this)).trans this
  · rw [upd_same, List.map_append]
    rfl
theorem Mk2.done (m : Mk2 H H' l1 l2 rows os) {ls o : Int} : ∃ rs : List Addr, H' l1 = some (.lst (rs.map V.ref)) ∧ ∀ mv, H' mv = none → ∀ ou, (upd H' mv (.tup (rs.map V.ref))) ou = none → ∀ p, (upd (upd H' mv (.tup (rs.map V.ref))) ou (.tup (os.map V.int))) p = none →
    Same H (upd (upd (upd H' mv (.tup (rs.map V.ref))) ou (.tup (os.map V.int))) p (.tup [.int ls, .int o, .ref mv, .ref ou])) ∧ H p = none ∧ MA (upd (upd (upd H' mv (.tup (rs.map V.ref))) ou (.tup (os.map V.int))) p (.tup [.int ls, .int o, .ref mv, .ref ou])) p ⟨ls, o, rows, os⟩ := by
  obtain ⟨rs, a, b, c⟩ := m.e1
  refine ⟨rs, a, fun mv hmv ou hou p hp => ?_⟩
  have s4 := same_upd (o := .tup (rs.map V.ref)) (Same.refl H') hmv
  have s5 := same_upd (o := .tup (os.map V.int)) s4 hou
  have s6 := same_upd (o := .tup [.int ls, .int o, .ref mv, .ref ou]) s5 hp
  refine ⟨m.same.trans s6, (m.same.trans s5).free hp, mv, ou, rs, ?_⟩
  have mo : ou ≠ mv := fun z => by
    rw [z, upd_same] at hou
    cases hou
  have m1 : mv ≠ p := fun z => by
    rw [← z, upd_ne mo.symm, upd_same] at hp
    cases hp
  have m2 : ou ≠ p := fun z => by
    rw [← z, upd_same] at hp
    cases hp
  exact ⟨upd_same, by rw [upd_ne m1, upd_ne mo.symm, upd_same], by show upd _ p _ ou = _; rw [upd_ne m2, upd_same], b, fun i r w a b => s6 _ _ (c i r w a b)⟩
end
end Mz

set_option Elab.async false
set_option linter.all false
set_option maxRecDepth 100000
set_option maxHeartbeats 4000000
/-! lists of pairs of ints, lists of lists of ints: not in, ==, != -/
namespace Mz
open PySem PySem.Spec PyProof.Rows L2
def lsP (p : Pr) : List Int := [p.1, p.2]
theorem lsP_inj {p q : Pr} : lsP p = lsP q ↔ p = q := by
  constructor
  · intro h
    have h : [p.1, p.2] = [q.1, q.2] := h
    injection h with a b
    injection b with b c
    exact Prod.ext a b
  · rintro rfl
    rfl
theorem lsP_map {D E : List Pr} : D.map lsP = E.map lsP ↔ D = E := by
  constructor
  · intro h
    induction D generalizing E with
    | nil => cases E with
      | nil => rfl
      | cons => cases h
    | cons x D ih => cases E with
      | nil => cases h
      | cons y E =>
        rw [List.map_cons, List.map_cons] at h
        injection h with a b
        rw [lsP_inj.mp a, ih b]
  · rintro rfl
    rfl
theorem shaped_rows (D : List (List Int)) : SeqAt.shaped (.list (D.map dRow)) = true := by
  have h1 := depth_rows D
  have h3 : PyData.depth (.list (D.map dRow)) ≤ 64 := by
    simp only [PyData.depth]
    omega
  have h4 : PyData.canLay0 (.list (D.map dRow)) = true := by
    simp only [PyData.canLay0]
    exact lay_rows D
  show (PyData.canLay0 _ && decide (PyData.depth _ ≤ 64)) = true
  rw [h4, decide_eq_true h3]
  rfl
theorem shaped_row (w : List Int) : SeqAt.shaped (dRow w) = true := by
  have h1 := depthI w
  have h3 : PyData.depth (dRow w) ≤ 64 := by
    unfold dRow
    simp only [PyData.depth]
    omega
  have h4 : PyData.canLay0 (dRow w) = true := by
    unfold dRow
    simp only [PyData.canLay0]
    exact lay_ints w
  show (PyData.canLay0 _ && decide (PyData.depth _ ≤ 64)) = true
  rw [h4, decide_eq_true h3]
  rfl
theorem eqv_row (a b : List Int) : PyData.eqv (dRow a) (dRow b) = decide (a = b) := by
  unfold dRow
  rw [PyData.eqv, eqv_ints]
theorem any_rows (D : List (List Int)) (w : List Int) : ((D.map dRow).any fun z => PyData.eqv z (dRow w)) = decide (w ∈ D) := by
  rw [List.any_map, Bool.eq_iff_iff, List.any_eq_true, decide_eq_true_iff]
  constructor
  · rintro ⟨x, hx, h⟩
    have : PyData.eqv (dRow x) (dRow w) = true := h
    rw [eqv_row] at this
    rw [← of_decide_eq_true this]
    exact hx
  · intro h
    exact ⟨w, h, by show PyData.eqv (dRow w) (dRow w) = true; rw [eqv_row]; exact decide_eq_true rfl⟩
/-- a list of pairs -/
def PrL (H : Hp) (ts : List Addr) (D : List Pr) : Prop := ts.length = D.length ∧ ∀ (i : Nat) (a : Addr) (p : Pr), ts[i]? = some a → D[i]? = some p → H a = some (.tup [.int p.1, .int p.2])
theorem PrL.same {H H' : Hp} {ts : List Addr} {D : List Pr} (h : PrL H ts D) (s : Same H H') : PrL H' ts D := ⟨h.1, fun i a w h1 h2 => s _ _ (h.2 i a w h1 h2)⟩
theorem dp_prs {K : PySem.W.Frag} {H : Hp} {p : Addr} {ts : List Addr} {D : List Pr} (hp : H p = some (.lst (ts.map V.ref))) (h : PrL H ts D) : Dp K H (.ref p) (.list ((D.map lsP).map dRow)) := by
  refine .lst (SqL.of hp) (dp_rows ts (D.map lsP) (by rw [List.length_map]; exact h.1) fun i r w a b => ?_)
  obtain ⟨q, hq, rfl⟩ : ∃ q, D[i]? = some q ∧ w = lsP q := by
    rw [List.getElem?_map] at b
    cases e : D[i]? with
    | none => rw [e] at b; cases b
    | some q => rw [e] at b; exact ⟨q, rfl, (Option.some.inj b).symm⟩
  exact h.2 i r q a hq
section
variable {K : PySem.W.Frag} {H : Hp} {a b p r : Addr} {as bs ts us : List Addr} {D E : List Pr} {Va Wa : List (List Int)} {x : Pr} {Q : VK}
theorem notin_prs (hr : H r = some (.tup [.int x.1, .int x.2])) (hp : H p = some (.lst (ts.map V.ref))) (h : PrL H ts D) (q : Q (.bl (!decide (x ∈ D))) H) : rNotInD K (.ref r) (.ref p) H Q := by
  refine ⟨dRow (lsP x), (D.map lsP).map dRow, .tup (SqT.of hr) (dp_ints (lsP x)), dp_prs hp h, shaped_row _, shaped_rows _, ?_⟩
  rw [any_rows]
  have e : decide (lsP x ∈ D.map lsP) = decide (x ∈ D) := by
    rw [decide_eq_decide, List.mem_map]
    exact ⟨fun ⟨y, h1, h2⟩ => by rw [← lsP_inj.mp h2]; exact h1, fun h => ⟨x, h, rfl⟩⟩
  rw [e]
  exact q
theorem eqv_prs (D E : List Pr) : PyData.eqv (.list ((D.map lsP).map dRow)) (.list ((E.map lsP).map dRow)) = decide (D = E) := by
  rw [PyData.eqv, eqv_rows, decide_eq_decide]
  exact lsP_map
theorem ne_prs (ha : H a = some (.lst (ts.map V.ref))) (h1 : PrL H ts D) (hb : H b = some (.lst (us.map V.ref))) (h2 : PrL H us E) (q : Q (.bl (!decide (D = E))) H) : rNeD K (.ref a) (.ref b) H Q :=
  ⟨_, _, dp_prs ha h1, dp_prs hb h2, shaped_rows _, shaped_rows _, by rw [eqv_prs]; exact q⟩
theorem eqv_lls : ∀ rs qs : List (List Int), PyData.eqvAll (rs.map dLst) (qs.map dLst) = decide (rs = qs)
  | [], [] => by simp [PyData.eqvAll]
  | [], _ :: _ => by simp [PyData.eqvAll]
  | _ :: _, [] => by simp [PyData.eqvAll]
  | r :: rs, q :: qs => by
    have e : PyData.eqv (dLst r) (dLst q) = decide (r = q) := eqv_l r q
    rw [List.map_cons, List.map_cons, PyData.eqvAll, eqv_lls rs qs, e]
    by_cases h : r = q
    · subst h
      by_cases h2 : rs = qs <;> simp [h2]
    · simp [h]
theorem eqv_ll (D E : List (List Int)) : PyData.eqv (dLL D) (dLL E) = decide (D = E) := by
  unfold dLL
  rw [PyData.eqv, eqv_lls]
theorem ne_lls (ha : H a = some (.lst (as.map V.ref))) (h1 : LL H as Va) (hb : H b = some (.lst (bs.map V.ref))) (h2 : LL H bs Wa) (q : Q (.bl (!decide (Va = Wa))) H) : rNeD K (.ref a) (.ref b) H Q :=
  ⟨_, _, dp_ll ha h1, dp_ll hb h2, shaped_ll _, shaped_ll _, by rw [eqv_ll]; exact q⟩
theorem eq_lls (ha : H a = some (.lst (as.map V.ref))) (h1 : LL H as Va) (hb : H b = some (.lst (bs.map V.ref))) (h2 : LL H bs Wa) (q : Q (.bl (decide (Va = Wa))) H) : rEqD K (.ref a) (.ref b) H Q :=
  ⟨_, _, dp_ll ha h1, dp_ll hb h2, shaped_ll _, shaped_ll _, by rw [eqv_ll]; exact q⟩
end
end Mz

set_option Elab.async false
set_option linter.all false
set_option maxRecDepth 100000
set_option maxHeartbeats 4000000
/-! pairs of states that are met from a pair, in a list of tuples -/
namespace Mz
open PySem PySem.Spec PyProof.Rows L2
theorem ifDT {b : Bool} {p q : Prop} (e : b = true) (h : p) : if b = true then p else q := by rw [if_pos e]; exact h
theorem ifDF {b : Bool} {p q : Prop} (e : b = false) (h : q) : if b = true then p else q := by rw [if_neg (by rw [e]; decide)]; exact h
theorem kit_tuples {K : PySem.W.Frag} : PySem.W.kitOne K (.type "tuple") (.type "tuple") = some true := if_pos (beq_self_eq_true _)
theorem dec_nat (x y : Nat) : decide (V.int (x : Int) = V.int (y : Int)) = decide (x = y) := by
  rw [Bool.eq_iff_iff, decide_eq_true_iff, decide_eq_true_iff]
  constructor
  · intro h
    injection h with h
    omega
  · rintro rfl
    rfl
theorem PrL.nil {H : Hp} : PrL H [] [] := ⟨rfl, fun i x p h => by simp at h⟩
theorem PrL.one {H : Hp} {t : Addr} {p : Pr} (h : H t = some (.tup [.int p.1, .int p.2])) : PrL H [t] [p] := ⟨rfl, fun i x q h1 h2 => by
  have i0 : i = 0 := by
    have := (List.getElem?_eq_some_iff.mp h1).1
    simp at this
    exact this
  subst i0
  cases h1
  cases h2
  exact h⟩
theorem PrL.push {H : Hp} {ts : List Addr} {D : List Pr} {pa t : Addr} {p : Pr} (pr : PrL H ts D) (e1 : H pa = some (.lst (ts.map V.ref))) (et : H t = some (.tup [.int p.1, .int p.2])) : PrL (upd H pa (.lst (ts.map V.ref ++ [.ref t]))) (ts ++ [t]) (D ++ [p]) := by
  have keep : ∀ {x u}, H x = some (HO.tup u) → (upd H pa (.lst (ts.map V.ref ++ [.ref t]))) x = some (.tup u) := fun {x u} h => by
    rw [upd_ne fun z => by
      rw [z, e1] at h
      cases h]
    exact h
  refine ⟨by rw [List.length_append, List.length_append, pr.1]; rfl, fun k x q h1 h2 => ?_⟩
  rcases get_app h2 with y | ⟨y1, y2⟩
  · rcases get_app h1 with u | ⟨u1, u2⟩
    · exact keep (pr.2 k x q u y)
    · have := (List.getElem?_eq_some_iff.mp y).1
      rw [← pr.1] at this
      omega
  · rcases get_app h1 with u | ⟨u1, u2⟩
    · have := (List.getElem?_eq_some_iff.mp u).1
      rw [pr.1] at this
      omega
    · rw [u2, y2]
      exact keep et
/-- the pairs met from p0, the ones below i done -/
structure MetG (A B : Mach) (p0 : Pr) (D : List Pr) (i : Nat) : Prop where
  st : D[0]? = some p0
  nd : D.Nodup
  inp : ∀ p ∈ D, A.St p.1 ∧ B.St p.2
  rch : ∀ p ∈ D, ∃ v, Lt A.ls v ∧ p = (A.run p0.1 v, B.run p0.2 v)
  done : ∀ j p, j < i → D[j]? = some p → A.out p.1 = B.out p.2 ∧ ∀ a : Nat, (a : Int) < A.ls → (A.next p.1 a, B.next p.2 a) ∈ D
section
variable {A B : Mach} {p0 : Pr} {D : List Pr} {i : Nat}
theorem pairs_in {D : List Pr} (nd : D.Nodup) (inp : ∀ p ∈ D, A.St p.1 ∧ B.St p.2) : D.length ≤ A.rows.length * B.rows.length := by
  have h := nodup_few (A.rows.length * B.rows.length) (D.map fun p => p.1.toNat * B.rows.length + p.2.toNat) ?_ ?_
  · rw [List.length_map] at h
    exact h
  · refine List.pairwise_map.mpr (List.Pairwise.imp_of_mem (fun {p q} hp hq ne e => ne ?_) nd)
    obtain ⟨⟨a1, a2⟩, b1, b2⟩ := inp p hp
    obtain ⟨⟨c1, c2⟩, d1, d2⟩ := inp q hq
    have e1 : p.2.toNat = q.2.toNat := by
      have := congrArg (· % B.rows.length) e
      simp only [Nat.mul_add_mod_self_right, Nat.mul_comm _ B.rows.length, Nat.mul_add_mod] at this
      rw [Nat.mod_eq_of_lt (by omega), Nat.mod_eq_of_lt (by omega)] at this
      exact this
    have e2 : p.1.toNat = q.1.toNat := by
      rw [e1] at e
      exact Nat.eq_of_mul_eq_mul_right (by omega) (Nat.add_right_cancel e)
    exact Prod.ext (by omega) (by omega)
  · intro x hx
    obtain ⟨p, hp, rfl⟩ := List.mem_map.mp hx
    obtain ⟨⟨a1, a2⟩, b1, b2⟩ := inp p hp
    have h1 : p.1.toNat + 1 ≤ A.rows.length := by omega
    have h2 : p.2.toNat < B.rows.length := by omega
    calc p.1.toNat * B.rows.length + p.2.toNat < p.1.toNat * B.rows.length + B.rows.length := by omega
      _ = (p.1.toNat + 1) * B.rows.length := by rw [Nat.succ_mul]
      _ ≤ _ := Nat.mul_le_mul_right _ h1
theorem MetG.few (m : MetG A B p0 D i) : D.length ≤ A.rows.length * B.rows.length := pairs_in m.nd m.inp
theorem MetG.start (h1 : A.St p0.1) (h2 : B.St p0.2) : MetG A B p0 [p0] 0 :=
  ⟨rfl, by simp, fun p hp => by rw [List.mem_singleton.mp hp]; exact ⟨h1, h2⟩, fun p hp => ⟨[], fun z hz => absurd hz (by simp), by rw [List.mem_singleton.mp hp]; rfl⟩, fun j p h => absurd h (Nat.not_lt_zero _)⟩
theorem MetG.sim (m : MetG A B p0 D i) (h : D.length ≤ i) (gA : Good A) : Sim A B p0.1 p0.2 := by
  have cl : ∀ p ∈ D, A.out p.1 = B.out p.2 ∧ ∀ a : Nat, (a : Int) < A.ls → (A.next p.1 a, B.next p.2 a) ∈ D := fun p hp => by
    obtain ⟨j, hj⟩ := List.getElem?_of_mem hp
    have jl := (List.getElem?_eq_some_iff.mp hj).1
    exact m.done j p (by omega) hj
  have run : ∀ v, Lt A.ls v → (A.run p0.1 v, B.run p0.2 v) ∈ D := by
    intro v
    induction v using snoc_ind with
    | h0 => exact fun _ => List.mem_of_getElem? m.st
    | hs v a ih =>
      intro hv
      obtain ⟨v1, a0, a1⟩ := lt_snoc.mp hv
      rw [run_snoc, run_snoc]
      have := (cl _ (ih v1)).2 a.toNat (by omega)
      rw [show ((a.toNat : Nat) : Int) = a by omega] at this
      exact this
  exact fun v hv => (cl _ (run v hv)).1
theorem MetG.apart (m : MetG A B p0 D i) {p : Pr} (hp : p ∈ D) (h : A.out p.1 ≠ B.out p.2) : ¬ Sim A B p0.1 p0.2 := fun s => by
  obtain ⟨v, hv, e⟩ := m.rch p hp
  rw [e] at h
  exact h (s v hv)
theorem MetG.push (m : MetG A B p0 D i) (gA : Good A) (gB : Good B) (ls : A.ls = B.ls) {p : Pr} (hp : p ∈ D) {z : Int} (h0 : 0 ≤ z) (h1 : z < A.ls) (n : (A.next p.1 z, B.next p.2 z) ∉ D) (hi : i ≤ D.length) : MetG A B p0 (D ++ [(A.next p.1 z, B.next p.2 z)]) i := by
  obtain ⟨p1, p2⟩ := m.inp p hp
  refine ⟨get_app1 m.st, ?_, fun q hq => ?_, fun q hq => ?_, fun k q hk hq => ?_⟩
  · refine List.nodup_append.mpr ⟨m.nd, by simp, fun x hx y hy e => ?_⟩
    rw [List.mem_singleton.mp hy] at e
    rw [e] at hx
    exact n hx
  · rcases List.mem_append.mp hq with h | h
    · exact m.inp q h
    · rw [List.mem_singleton.mp h]
      exact ⟨(gA.step p1 h0 h1).1, (gB.step p2 h0 (by rw [← ls]; exact h1)).1⟩
  · rcases List.mem_append.mp hq with h | h
    · exact m.rch q h
    · rw [List.mem_singleton.mp h]
      obtain ⟨v, hv, e⟩ := m.rch p hp
      refine ⟨v ++ [z], lt_snoc.mpr ⟨hv, h0, h1⟩, ?_⟩
      rw [run_snoc, run_snoc, e]
  · rw [List.getElem?_append_left (by omega)] at hq
    obtain ⟨d1, d2⟩ := m.done k q hk hq
    exact ⟨d1, fun x hx => List.mem_append.mpr (.inl (d2 x hx))⟩
theorem MetG.next (m : MetG A B p0 D i) {p : Pr} (hp : D[i]? = some p) (h : A.out p.1 = B.out p.2) (ins : ∀ a : Nat, (a : Int) < A.ls → (A.next p.1 a, B.next p.2 a) ∈ D) : MetG A B p0 D (i + 1) := by
  refine ⟨m.st, m.nd, m.inp, m.rch, fun j q hj hq => ?_⟩
  by_cases ej : j = i
  · subst ej
    rw [hp] at hq
    cases hq
    exact ⟨h, ins⟩
  · exact m.done j q (by omega) hq
end
end Mz

set_option Elab.async false
set_option linter.all false
set_option maxRecDepth 100000
set_option maxHeartbeats 4000000
namespace K25
open PySem PySem.Spec PyProof.Rows L2 Mz
theorem ne_f {x y : Int} (h : x = y) : (!decide (V.int x = V.int y)) = false := by rw [h, decide_eq_true rfl]; rfl
/-- what the list of telling words is -/
structure Telling (L : Mach) (ws : List (List Int)) : Prop where
  nil : [] ∈ ws
  ok : ∀ w ∈ ws, Lt L.ls w ∧ w.length ≤ L.rows.length - 2
  asc : Asc ws
  few : 1 ≤ ws.length ∧ ws.length ≤ max 1 (L.rows.length - 1)
  tell : ∀ i j : Nat, i < L.rows.length → j < L.rows.length → AL L ws i j → i = j
def spTelling : Sp := fun vs H Q _ => ∃ (f : Addr) (M : Mach), vs = [.ref f] ∧ MA H f M ∧ Good M ∧
  ∀ (H' : Hp) (p : Addr) (G : List Int) (ts : List Addr) (ws : List (List Int)), Same H H' → H p = none → Rep (EqM M) M.rows.length G → H' p = some (.lst (ts.map V.ref)) → LL H' ts ws → Telling (leastBy M G (ordAt M G M.rows.length)) ws → Q (.ref p) H'
section
variable {P : Program} {w : World} {K : PySem.W.Frag} {mg : Str → Option Value} {base : Heap} {A : Ads}
theorem ok_order (T : Txt K mg A) : FnOk P w K mg base CX0 1 A.a_word_order A.d_word_order ["word"] (spOrder K) := by
  refine T.F_word_order.ok sc_word_order (fun vs H Q E h => ?_) (fun cdv Ar outer s H vs Q E hr h => ?_)
  · obtain ⟨_, _, rfl, _⟩ := h
    rfl
  · obtain ⟨a, ns, rfl, hS, fin⟩ := h
    refine ⟨_, (pss_one (ps_ret (pe_tup (pa_cons (pe_callB call_len_seq (by rfl) T.n_len PySem.boot_len (pa_cons (pv 0) pa_nil)) (pa_cons (pv 0) pa_nil))))), ?_⟩
    have lv : (ns.map V.int).length = ns.length := List.length_map ..
    rcases hS with hS | hS
    · refine ⟨_, rfl, a, _, rfl, .inl hS, ?_⟩
      rw [lv]
      exact ⟨_, rfl, (by show 2 ≤ sizeLine; decide), fun p hp => fin p hp⟩
    · refine ⟨_, rfl, a, _, rfl, .inr hS, ?_⟩
      rw [lv]
      exact ⟨_, rfl, (by show 2 ≤ sizeLine; decide), fun p hp => fin p hp⟩
theorem ok_telling (T : Txt K mg A) : FnOk P w K mg base CX0 4 A.a_telling_words A.d_telling_words ["machine"] spTelling := by
  have G_least : FnOk P w K mg base CX0 3 A.a_least A.d_least ["machine"] spLeast := ok_least T
  have G_first_places : FnOk P w K mg base CX0 1 A.a_first_places A.d_first_places ["marks"] (spPlaces K) := ok_places T
  have G_parting_word : FnOk P w K mg base (L2N.CX P w) 2 A.a_parting_word A.d_parting_word ["machine", "state", "other"] (spPartW A) := ok_partw T
  have G_outputs_from : FnOk P w K mg base CX0 1 A.a_outputs_from A.d_outputs_from ["machine", "state", "word"] (spFrom K) := ok_from T
  have G_word_order : FnOk P w K mg base CX0 1 A.a_word_order A.d_word_order ["word"] (spOrder K) := ok_order T
  refine T.F_telling_words.ok sc_telling_words (fun vs H Q E h => ?_) (fun cdv Ar outer s H vs Q E hr h => ?_)
  · obtain ⟨_, _, rfl, _⟩ := h
    rfl
  · obtain ⟨f, M, rfl, hM, g, fin⟩ := h
    have hr_least : Room 3 _ := hr
    have hr_first_places : Room 1 _ := hr.mono (by decide)
    have hr_parting_word : Room 2 _ := hr.mono (by decide)
    have hr_outputs_from : Room 1 _ := hr.mono (by decide)
    have hr_word_order : Room 3 _ := hr
    refine ⟨_, (pss_cons (ps_set (i := 1) sc_telling_words.nd rfl (Or.inr rfl) (pe_call G_least hr_least (by rfl) T.g_least T.F_least.kp T.b_least .nil pass0 (pa_cons (pv 0) pa_nil)))
      (pss_cons (ps_set (i := 2) sc_telling_words.nd rfl (Or.inl rfl) (pe_lst (pa_cons (pe_lst pa_nil) pa_nil)))
      (pss_cons (ps_set (i := 3) sc_telling_words.nd rfl (Or.inl rfl) (pe_call G_first_places hr_first_places (by rfl) T.g_first_places T.F_first_places.kp T.b_first_places .nil pass0 (pa_cons (pe_ix (r := rIx K) ix_seq (pv 1) pe_int (fun _ _ => rfl)) pa_nil)))
      (pss_cons (ps_for PassesOwn.never rfl (pi_range1 (by rfl) T.n_range (pa_cons (pe_callB call_len_seq (by rfl) T.n_len PySem.boot_len (pa_cons (pv 3) pa_nil)) pa_nil)) (pg_name (i := 4) sc_telling_words.nd rfl (Or.inl rfl))
        (pss_one (ps_while PassesOwn.never (pt_cmpR op_ne (pe_ix (r := rIx K) ix_seq (pv 3) (pv 4) (fun _ _ => rfl)) (pv 4) (nomark _)) (pss_cons (ps_set (i := 5) sc_telling_words.nd rfl (Or.inr rfl) (pe_call G_parting_word hr_parting_word (by rfl) T.g_parting_word T.F_parting_word.kp T.b_parting_word .nil passN (pa_cons (pv 1) (pa_cons (pe_ix (r := rIx K) ix_seq (pv 3) (pv 4) (fun _ _ => rfl)) (pa_cons (pv 4) pa_nil)))))
              (pss_cons (ps_expr (pe_bm PySem.F.plainAttrs_list PySem.F.slot_list_append PySem.F.type_list_append mt_append (pv 2) (pa_cons (pv 5) pa_nil)))
              (pss_one (ps_set (i := 3) sc_telling_words.nd rfl (Or.inl rfl) (pe_call G_first_places hr_first_places (by rfl) T.g_first_places T.F_first_places.kp T.b_first_places .nil pass0 (pa_cons (pe_lc (own := [("one", 6), ("mark", 7)]) (g := (gTup K 2 (gCons (gName 6) (gCons (gName 7) gNil)))) (tt := tYes) rfl sc_telling_words.nd (pi_enumT (by rfl) T.n_enumerate (pa_cons (pv 3) pa_nil)) (blkOk_by (N := ["machine", "small", "words", "same", "state", "word", "one", "mark"]) (sc := defScope s_telling_words) (by decide +kernel)) (fun _ _ _ _ _ => (pg_tup rfl (pgs_cons (pg_name (i := 6) sc_telling_words.nd rfl (Or.inl rfl)) (pgs_cons (pg_name (i := 7) sc_telling_words.nd rfl (Or.inl rfl)) pgs_nil)))) (fun _ _ _ _ _ => pts_nil) (fun _ _ _ _ _ => (pe_tup (pa_cons (pv 7) (pa_cons (pe_callTy (r := rTof K) (T := "tuple") call_tof (by rfl) T.n_tuple (by decide +kernel) (pa_cons (pe_call G_outputs_from hr_outputs_from (by rfl) T.g_outputs_from T.F_outputs_from.kp T.b_outputs_from .nil pass0 (pa_cons (pv 1) (pa_cons (pv 6) (pa_cons (pv 5) pa_nil)))) pa_nil)) pa_nil))))) pa_nil)))))))))
      (pss_one (ps_ret (pe_callBK (cr_sortK G_word_order hr_word_order T.b_word_order) (by rfl) T.n_sorted (by decide +kernel) (pa_cons (pv 2) pa_nil) (pk_cons (C8.pe_gc (v := .ref A.a_word_order) (by rfl) ⟨_, T.g_word_order, rfl⟩) pk_nil)))))))), ?_⟩
    refine ⟨_, rfl, f, M, rfl, hM, g, fun H1 sm G0 s1 fs r0 hL => ?_⟩
    have gL := leastBy_good g r0
    have prt : ∀ {i j : Int}, (leastBy M G0 (ordAt M G0 M.rows.length)).St i → (leastBy M G0 (ordAt M G0 M.rows.length)).St j → i ≠ j → ∃ u, Part (leastBy M G0 (ordAt M G0 M.rows.length)) (leastBy M G0 (ordAt M G0 M.rows.length)) (i, j) u := fun a b c => least_parts g r0 a b c
    have fin := fun H' p ts ws n s => fin H' p G0 ts ws n s r0
    generalize leastBy M G0 (ordAt M G0 M.rows.length) = L at *
    have n30 := gL.s30
    have n1 := gL.s1
    have nol := gL.ol
    refine ⟨Nat.zero_le _, fun w0 hw0 => ?_⟩
    have s2 := same_upd (o := .lst []) (Same.refl H1) hw0
    have e2 : (upd H1 w0 (.lst [])) w0 = some (.lst (([] : List Int).map V.int)) := upd_same
    generalize upd H1 w0 (.lst []) = H2 at *
    refine ⟨(by show 1 ≤ sizeLine; decide), fun D hD => ?_⟩
    have s3 := same_upd (o := .lst [.ref w0]) (Same.refl H2) hD
    have eD : (upd H2 D (.lst [.ref w0])) D = some (.lst ([w0].map V.ref)) := upd_same
    generalize upd H2 D (.lst [.ref w0]) = H3 at *
    have hD1 : H1 D = none := s2.free hD
    have wD : w0 ≠ D := fun z => by rw [z, hD] at e2; cases e2
    have hL3 := (hL.same s2).same s3
    have l3 : LLd H3 [w0] [[]] D := ⟨⟨rfl, fun i a u h1 h2 => by
      cases i with
      | zero =>
        cases h1
        cases h2
        exact s3 _ _ e2
      | succ i => simp at h1⟩, fun a ha => by rw [List.mem_singleton.mp ha]; exact wD⟩
    obtain ⟨mv, ou, rs, hLt⟩ := id hL3
    refine ⟨_, rfl, .inr (.inl ⟨sm, _, 3, .ref ou, rfl, rfl, SqT.of hLt.top, rfl, ou, _, _, rfl, .mi L.outs (.inr (SqT.of hLt.ou)), by rw [List.length_map]; omega, fun H4 p4 s4 f4 e4 => ?_⟩)⟩
    have rep0 : Rep (AL L [[]]) L.rows.length (firsts L.outs) := by
      have r := rep_of (l := L.outs) (R := AL L [[]]) fun i j x y hx hy => ?_
      · rw [nol] at r
        exact r
      · have ox : L.out (i : Int) = x := by
          unfold Mach.out
          rw [show ((i : Int)).toNat = i by omega, List.getD_eq_getElem?_getD, hx]
          rfl
        have oy : L.out (j : Int) = y := by
          unfold Mach.out
          rw [show ((j : Int)).toNat = j by omega, List.getD_eq_getElem?_getD, hy]
          rfl
        constructor
        · intro e w hw
          rw [List.mem_singleton.mp hw, outs_nil, outs_nil, ox, oy, e]
        · intro h
          have := h [] List.mem_cons_self
          rw [outs_nil, outs_nil, ox, oy] at this
          injection this
    have t0 : Tells L [[]] (firsts L.outs) := ⟨List.mem_cons_self, fun w hw => by rw [List.mem_singleton.mp hw]; exact ⟨fun z hz => absurd hz (by simp), .inl rfl⟩, by simp, rep0, .inl rfl⟩
    have eD4 := s4 _ _ eD
    have pD4 : p4 ≠ D := fun z => by rw [z, eD] at f4; cases f4
    have lG : ∀ {ws : List (List Int)} {G : List Int}, Tells L ws G → G.length = L.rows.length := fun t => t.rep.1
    refine ⟨_, rfl, p4, _, rfl, .inl (SqL.of e4), ?_⟩
    rw [List.length_map, lG t0]
    have s14 := (s2.trans s3).trans s4
    refine ⟨L.rows.length, rfl, by omega, by omega, for_range (n := L.rows.length) (fun i σ H' => ∃ (p : Addr) (G : List Int) (ts : List Addr) (ws : List (List Int)) (v4 v5 v6 v7 : Option V), σ = [some (.ref f), some (.ref sm), some (.ref D), some (.ref p), v4, v5, v6, v7] ∧
        Same H1 H' ∧ H' p = some (.lst (G.map V.int)) ∧ p ≠ D ∧ H' D = some (.lst (ts.map V.ref)) ∧ LLd H' ts ws D ∧ Tells L ws G ∧ ∀ j : Nat, j < i → G[j]? = some (j : Int))
      ⟨p4, _, [w0], [[]], none, none, none, none, rfl, s14, e4, pD4, eD4, l3.same s4, t0, fun j hj => absurd hj (by omega)⟩ ?_ ?_⟩
    · rintro i σ H5 hi ⟨p, G, ts, ws, v4, v5, v6, v7, rfl, s5, ep, pD, eD5, l5, t5, dn⟩
      have ei : (0 : Int) + (i : Int) = (i : Int) := by omega
      dsimp only [List.set]
      rw [ei]
      refine ⟨fun m σ H' => ∃ (p : Addr) (G : List Int) (ts : List Addr) (ws : List (List Int)) (v5 v6 v7 : Option V), σ = [some (.ref f), some (.ref sm), some (.ref D), some (.ref p), some (.int (i : Int)), v5, v6, v7] ∧ m = L.rows.length - cnt L.rows.length (AL L ws) ∧
        Same H1 H' ∧ H' p = some (.lst (G.map V.int)) ∧ p ≠ D ∧ H' D = some (.lst (ts.map V.ref)) ∧ LLd H' ts ws D ∧ Tells L ws G ∧ ∀ j : Nat, j < i → G[j]? = some (j : Int), ⟨_, p, G, ts, ws, v5, v6, v7, rfl, rfl, s5, ep, pD, eD5, l5, t5, dn⟩, ?_⟩
      clear s5 ep pD eD5 l5 t5 dn v4 v5 v6 v7 p G ts ws
      rintro m σ H5 ⟨p, G, ts, ws, v5, v6, v7, rfl, rfl, s5, ep, pD, eD5, l5, t5, dn⟩
      obtain ⟨gi, eg, gle, gR, gmin⟩ := t5.rep.2 i hi
      have lg := t5.rep.1
      refine ⟨_, rfl, _, rfl, .inl ⟨p, _, _, _, rfl, rfl, SqL.of ep, atI_get? (z := (gi : Int)) (by omega) (by rw [Int.toNat_natCast]; exact eg), _, rfl, rfl, _, rfl, ?_⟩⟩
      by_cases c : (gi : Int) = (i : Int)
      · refine ifDF (ne_f c) ?_
        refine ⟨p, G, ts, ws, _, v5, v6, v7, rfl, s5, ep, pD, eD5, l5, t5, fun j hj => ?_⟩
        rcases Nat.lt_or_ge j i with z | z
        · exact dn j z
        · have : j = i := by omega
          subst this
          rw [eg, c]
      · refine ifDT (by rw [decide_eq_false fun z => c (by injection z)]; rfl) ?_
        have gn : gi < L.rows.length := by omega
        have sti : L.St (i : Int) := ⟨by omega, by omega⟩
        have stg : L.St (gi : Int) := ⟨by omega, by omega⟩
        have al : AL L ws gi i := fun w hw => (gR w hw).symm
        obtain ⟨u0, pu0⟩ := prt stg sti c
        have hL5 := hL.same s5
        refine ⟨fun σ' H' => ∃ m', m' < L.rows.length - cnt L.rows.length (AL L ws) ∧ ∃ (p : Addr) (G : List Int) (ts : List Addr) (ws : List (List Int)) (v5 v6 v7 : Option V), σ' = [some (.ref f), some (.ref sm), some (.ref D), some (.ref p), some (.int (i : Int)), v5, v6, v7] ∧ m' = L.rows.length - cnt L.rows.length (AL L ws) ∧
          Same H1 H' ∧ H' p = some (.lst (G.map V.int)) ∧ p ≠ D ∧ H' D = some (.lst (ts.map V.ref)) ∧ LLd H' ts ws D ∧ Tells L ws G ∧ ∀ j : Nat, j < i → G[j]? = some (j : Int), fun σ' H' z => z, ?_⟩
        refine ⟨_, rfl, _, rfl, _, rfl, .inl ⟨p, _, _, _, rfl, rfl, SqL.of ep, atI_get? (z := (gi : Int)) (by omega) (by rw [Int.toNat_natCast]; exact eg), _, rfl, ?_⟩⟩
        refine ⟨sm, L, gi, i, rfl, hL5, gL, fun ip H6 s6 => ⟨fun u q pu fq eq => ?_, fun np => absurd pu0.bad (np u0 pu0.lt)⟩, fun z => absurd ⟨stg, sti⟩ z⟩
        have qD : q ≠ D := fun z => by rw [z, eD5] at fq; cases fq
        have short := part_short2 gL (p := ((gi : Int), (i : Int))) ⟨stg, sti⟩ pu
        have eD6 := s6 _ _ eD5
        refine ⟨_, rfl, .inl ⟨rfl, _, SqL.of eD6⟩, _, rfl, D, _, _, rfl, rfl, eD6, ?_, ?_⟩
        · have := t5.many
          have := l5.1.1
          rw [List.length_map]
          exact Nat.lt_of_le_of_lt (by omega : ts.length ≤ 30) (by decide)
        have l7 := (l5.same s6).push eq qD (.lst (ts.map V.ref ++ [.ref q]))
        have s7 : Same H1 (upd H6 D (.lst (ts.map V.ref ++ [.ref q]))) := same_set (s5.trans s6) hD1
        have ep7 : (upd H6 D (.lst (ts.map V.ref ++ [.ref q]))) p = some (.lst (G.map V.int)) := by rw [upd_ne pD]; exact s6 _ _ ep
        have eq7 : (upd H6 D (.lst (ts.map V.ref ++ [.ref q]))) q = some (.lst (u.map V.int)) := by rw [upd_ne qD]; exact eq
        have eD7 : (upd H6 D (.lst (ts.map V.ref ++ [.ref q]))) D = some (.lst ((ts ++ [q]).map V.ref)) := by rw [upd_same, List.map_append]; rfl
        generalize upd H6 D (.lst (ts.map V.ref ++ [.ref q])) = H7 at *
        have hL7 := hL.same s7
        refine ⟨_, rfl, p, rfl, .inl ⟨⟨_, SqL.of ep7⟩, fun D2 hD2 => ?_⟩⟩
        have mk : ∀ j : Nat, j < L.rows.length → G[j]? = some (G.getD j 0) := fun j hj => by
          rw [List.getD_eq_getElem?_getD, List.getElem?_eq_getElem (by omega)]
          rfl
        refine lc_it (walk_enum (xs := G.map V.int)) (fun k H' => Same H7 H' ∧ ∃ as : List Addr, H' D2 = some (.lst (as.map V.ref)) ∧ as.length = k ∧ Paired (fun b x => KeyAt H' b x) as ((List.range k).map fun j : Nat => ((G.getD j 0, outsA L j u) : PK)))
          ⟨same_upd (Same.refl _) hD2, [], upd_same, rfl, .nil⟩ (fun k H' _ ⟨z, _⟩ => SqL.of (z _ _ ep7)) ?_ ?_
        · rintro k y H8 H8' hk ⟨s8, as, e8, la, kk⟩ ⟨T, x, z, rfl, hT, rfl, h1, h2⟩
          rw [List.length_map, lg] at hk
          obtain ⟨v, hv, rfl⟩ := ofV h2
          cases h1
          have ev : v = G.getD k 0 := by
            have := mk k hk
            rw [hv] at this
            exact Option.some.inj this
          subst ev
          have sT := same_upd (o := .tup [.int (k : Int), .int (G.getD k 0)]) (Same.refl H8) hT
          have TD : T ≠ D2 := fun q => by
            rw [q, e8] at hT
            cases hT
          refine ⟨T, _, rfl, SqT.of upd_same, rfl, _, _, rfl, _, _, rfl, rfl, ?_⟩
          refine ⟨rfl, ?_⟩
          have s9 := s8.trans sT
          have e9 := sT _ _ e8
          have k9 : Paired (fun b x => KeyAt (upd H8 T (.tup [.int (k : Int), .int (G.getD k 0)])) b x) as ((List.range k).map fun j : Nat => ((G.getD j 0, outsA L j u) : PK)) := Paired.mapP kk fun _ _ q => q.same sT
          generalize upd H8 T (.tup [.int (k : Int), .int (G.getD k 0)]) = H9 at *
          refine ⟨_, rfl, _, rfl, _, rfl, _, rfl, sm, q, L, k, u, rfl, hL7.same s9, gL, ⟨by omega, by omega⟩, SqL.of (s9 _ _ eq7), pu.lt, by omega, fun o ho => ?_⟩
          have sA := same_upd (o := .lst ((outsA L k u).map V.int)) (Same.refl H9) ho
          have eA : (upd H9 o (.lst ((outsA L k u).map V.int))) o = some (.lst ((outsA L k u).map V.int)) := upd_same
          generalize upd H9 o (.lst ((outsA L k u).map V.int)) = HA at *
          refine ⟨o, _, rfl, .inl ⟨SqL.of eA, fun b hb => ?_⟩⟩
          have sB := same_upd (o := .tup ((outsA L k u).map V.int)) (Same.refl HA) hb
          have eB : (upd HA b (.tup ((outsA L k u).map V.int))) b = some (.tup ((outsA L k u).map V.int)) := upd_same
          generalize upd HA b (.tup ((outsA L k u).map V.int)) = HB at *
          refine ⟨(by show 2 ≤ sizeLine; decide), fun t ht => ?_⟩
          have sC := same_upd (o := .tup [.int (G.getD k 0), .ref b]) (Same.refl HB) ht
          have eC : (upd HB t (.tup [.int (G.getD k 0), .ref b])) t = some (.tup [.int (G.getD k 0), .ref b]) := upd_same
          generalize upd HB t (.tup [.int (G.getD k 0), .ref b]) = HC at *
          have sAC := (sA.trans sB).trans sC
          have e8C := sAC _ _ e9
          have keep : ∀ {c : Addr} {pk : PK} {o : HO}, KeyAt HC c pk → (∀ xs, o = .lst xs → True) → KeyAt (upd HC D2 o) c pk := fun {c pk o} ⟨d, k1, k2⟩ _ =>
            ⟨d, by rw [upd_ne fun zz => by rw [zz, e8C] at k1; cases k1]; exact k1, by rw [upd_ne fun zz => by rw [zz, e8C] at k2; cases k2]; exact k2⟩
          refine ⟨_, e8C, ?_, same_set (s9.trans sAC) hD2, as ++ [t], by rw [upd_same, List.map_append]; rfl, by rw [List.length_append, la]; rfl, ?_⟩
          · rw [List.length_map]
            exact Nat.lt_of_le_of_lt (by omega : as.length ≤ 30) (by decide)
          · rw [List.range_succ, List.map_append]
            exact paired_snoc (Paired.mapP k9 fun _ _ x => keep (x.same sAC) fun _ _ => trivial) (keep ⟨b, eC, sC _ _ eB⟩ fun _ _ => trivial)
        · rintro H8 ⟨s8, as, e8, la, kk⟩
          rw [List.length_map, lg] at la kk
          refine ⟨D2, _, _, rfl, .mp as _ (SqL.of e8) kk, by rw [List.length_map]; omega, fun H9 p9 s9 f9 e9 => ?_⟩
          have s79 := s8.trans s9
          have eD9 := s79 _ _ eD7
          have p9D : p9 ≠ D := fun z => by rw [z, s8 _ _ eD7] at f9; cases f9
          have rF : Rep (AL L (ws ++ [u])) L.rows.length (firsts ((List.range L.rows.length).map fun j : Nat => ((G.getD j 0, outsA L j u) : PK))) := by
            have r := rep_of (l := (List.range L.rows.length).map fun j : Nat => ((G.getD j 0, outsA L j u) : PK)) (R := AL L (ws ++ [u])) fun a b x y hx hy => ?_
            · rw [List.length_map, List.length_range] at r
              exact r
            · have la := (List.getElem?_eq_some_iff.mp hx).1
              have lb := (List.getElem?_eq_some_iff.mp hy).1
              rw [List.length_map, List.length_range] at la lb
              rw [List.getElem?_map, List.getElem?_range la] at hx
              rw [List.getElem?_map, List.getElem?_range lb] at hy
              cases hx
              cases hy
              rw [AL_snoc, ← rep_eq (eqv_AL L L.rows.length ws) t5.rep la lb]
              constructor
              · intro e
                injection e with e1 e2
                exact ⟨e1, e2⟩
              · rintro ⟨e1, e2⟩
                show (_, _) = (_, _)
                rw [e1, e2]
          obtain ⟨t9, lt9⟩ := t5.step gL gn hi al pu rF
          have cl := cnt_le L.rows.length (AL L (ws ++ [u]))
          refine ⟨_, (by omega : L.rows.length - cnt L.rows.length (AL L (ws ++ [u])) < L.rows.length - cnt L.rows.length (AL L ws)), p9, _, ts ++ [q], ws ++ [u], _, _, _, rfl, rfl, s7.trans s79, e9, p9D, eD9, l7.same s79, t9, fun j hj => ?_⟩
          -- a state that was the first of its class stays so
          obtain ⟨g2, eg2, gle2, gR2, gmin2⟩ := rF.2 j (by omega)
          obtain ⟨g1, eg1, gle1, gR1, gmin1⟩ := t5.rep.2 j (by omega)
          rw [eg2]
          have hj0 := dn j hj
          rw [eg1] at hj0
          have hj1 : (g1 : Int) = (j : Int) := Option.some.inj hj0
          rcases Nat.lt_or_ge g2 j with z | z
          · exact absurd (AL_snoc.mp gR2).1 (gmin1 g2 (by omega))
          · rw [show g2 = j by omega]
    · rintro σ H5 ⟨p, G, ts, ws, v4, v5, v6, v7, rfl, s5, ep, pD, eD5, l5, t5, dn⟩
      refine ⟨_, rfl, ?_⟩
      refine sort_lists eD5 l5.1 t5.nd fun H6 p6 ts6 ws6 s6 f6 e6 l6 pm asc mem => ?_
      have len6 : ws6.length = ws.length := pm.length_eq
      refine fin H6 p6 ts6 ws6 ((s1.trans s5).trans s6) ((s1.trans s5).free f6) e6 l6 ⟨pm.mem_iff.mpr t5.nil, fun w hw => ?_, asc, by rw [len6]; exact t5.many, fun i j hi hj al => ?_⟩
      · obtain ⟨h1, h2⟩ := t5.ok w (pm.mem_iff.mp hw)
        refine ⟨h1, ?_⟩
        rcases h2 with z | z
        · rw [z]
          exact Nat.zero_le _
        · omega
      · have al : AL L ws i j := fun w hw => al w (pm.mem_iff.mpr hw)
        have h1 := dn i hi
        have h2 := dn j hj
        have := (rep_eq (eqv_AL L L.rows.length ws) t5.rep hi hj).mpr al
        rw [List.getD_eq_getElem?_getD, List.getD_eq_getElem?_getD, h1, h2] at this
        have : (i : Int) = (j : Int) := this
        omega
end
end K25

set_option Elab.async false
set_option linter.all false
set_option maxRecDepth 100000
set_option maxHeartbeats 4000000
namespace K25
open PySem PySem.Spec PyProof.Rows L2 Mz
def spWays (K : PySem.W.Frag) : Sp := fun vs H Q _ => ∃ (m : Addr) (M : Mach), vs = [.ref m] ∧ MA H m M ∧ Good M ∧
  ∀ (H' : Hp) (p : Addr) (us : List V), Same H H' → Ways H H' p M us → Q (.ref p) H'
section
variable {P : Program} {w : World} {K : PySem.W.Frag} {mg : Str → Option Value} {base : Heap} {A : Ads}
theorem ok_ways (T : Txt K mg A) : FnOk P w K mg base CX0 1 A.a_ways_to A.d_ways_to ["machine"] (spWays K) := by
  refine T.F_ways_to.ok sc_ways_to (fun vs H Q E h => ?_) (fun cdv Ar outer s H vs Q E hr h => ?_)
  · obtain ⟨_, _, rfl, _⟩ := h
    rfl
  · obtain ⟨m, M, rfl, ⟨mv, ou, rs, hM⟩, g, fin⟩ := h
    refine ⟨_, (pss_cons (ps_set (i := 1) sc_ways_to.nd rfl (Or.inr rfl) (pe_disp (pps_cons pe_int (pe_lst pa_nil) pps_nil) (by rfl) (by rfl) (fun z => by cases z) (by decide)))
      (pss_cons (ps_set (i := 2) sc_ways_to.nd rfl (Or.inl rfl) (pe_lst (pa_cons pe_int pa_nil)))
      (pss_cons (ps_set (i := 3) sc_ways_to.nd rfl (Or.inl rfl) pe_int)
      (pss_cons (ps_while PassesOwn.never (pt_cmpR op_lt (pv 3) (pe_callB call_len_seq (by rfl) T.n_len PySem.boot_len (pa_cons (pv 2) pa_nil)) (nomark _)) (pss_cons (ps_set (i := 4) sc_ways_to.nd rfl (Or.inl rfl) (pe_ix (r := rIx K) ix_seq (pv 2) (pv 3) (fun _ _ => rfl)))
          (pss_cons (ps_aug (i := 3) sc_ways_to.nd rfl (Or.inl rfl) pe_int ip_add)
          (pss_one (ps_for PassesOwn.never rfl (pi_enumT (by rfl) T.n_enumerate (pa_cons (pe_ix (r := rIx K) ix_seq (pe_ix (r := rIx K) ix_seq (pv 0) pe_int (fun _ _ => rfl)) (pv 4) (fun _ _ => rfl)) pa_nil)) (pg_tup rfl (pgs_cons (pg_name (i := 5) sc_ways_to.nd rfl (Or.inl rfl)) (pgs_cons (pg_name (i := 6) sc_ways_to.nd rfl (Or.inl rfl)) pgs_nil)))
            (pss_one (ps_if (pt_cmp (pc_dnotin (hu_of hr) (pv 6) (pv 1))) (pss_cons (ps_dput (hu_of hr) (pv 1) (pv 6) (pe_op op_cat (pe_dget (hu_of hr) (pv 1) (pv 4) (fun _ _ => rfl)) (pe_lst (pa_cons (pv 5) pa_nil))) rfl)
                  (pss_one (ps_expr (pe_bm PySem.F.plainAttrs_list PySem.F.slot_list_append PySem.F.type_list_append mt_append (pv 2) (pa_cons (pv 6) pa_nil))))) pss_nil)))))))
      (pss_one (ps_ret (pe_lc (own := [("state", 4)]) (g := (gName 4)) (tt := tYes) rfl sc_ways_to.nd (pi_range1 (by rfl) T.n_range (pa_cons (pe_callB call_len_seq (by rfl) T.n_len PySem.boot_len (pa_cons (pe_ix (r := rIx K) ix_seq (pv 0) pe_int (fun _ _ => rfl)) pa_nil)) pa_nil)) (blkOk_by (N := ["machine", "ways", "queue", "place", "state", "letter", "after"]) (sc := defScope s_ways_to) (by decide +kernel)) (fun _ _ _ _ _ => (pg_name (i := 4) sc_ways_to.nd rfl (Or.inl rfl))) (fun _ _ _ _ _ => pts_nil) (fun _ _ _ _ _ => (pe_dget1 (hu_of hr) (pv 1) (pv 4) ⟨rfl, rfl, rfl, rfl⟩))))))))), ?_⟩
    have l4 := g.l4
    have l1 := g.l1
    have g30 := g.s30
    intro d hd
    refine ⟨Nat.zero_le _, fun w0 hw0 => ?_⟩
    have s1 := same_upd (o := .dK []) (Same.refl H) hd
    have wd : w0 ≠ d := fun z => by
      rw [z, upd_same] at hw0
      cases hw0
    have s2' := same_upd (o := .lst []) s1 hw0
    refine ⟨(by rw [upd_ne wd.symm]; exact upd_same), [(Sum.inl 0, .ref w0)], rfl, (by show 1 ≤ 15; decide), ?_⟩
    have e0 : mergeK [] [((Sum.inl 0 : L2.Key), V.ref w0)] = dictW [⟨0, [], w0⟩] := rfl
    rw [e0]
    have s3 : Same H (upd (upd (upd H d (.dK [])) w0 (.lst [])) d (.dK (dictW [⟨0, [], w0⟩]))) := same_set s2' hd
    refine ⟨(by show 1 ≤ sizeLine; decide), fun qa hqa => ?_⟩
    have s4 := same_upd (o := .lst [.int 0]) s3 hqa
    have qd : qa ≠ d := fun z => by
      rw [z, upd_same] at hqa
      cases hqa
    have qw : qa ≠ w0 := fun z => by
      rw [z, upd_ne wd, upd_same] at hqa
      cases hqa
    have B0 : WB H (upd (upd (upd (upd H d (.dK [])) w0 (.lst [])) d (.dK (dictW [⟨0, [], w0⟩]))) qa (.lst [.int 0])) d qa [⟨0, [], w0⟩] :=
      ⟨s4, hd, s3.free hqa, by rw [upd_ne qd.symm, upd_same], upd_same,
        fun n hn => by rw [List.mem_singleton.mp hn]; exact ⟨by rw [upd_ne qw.symm, upd_ne wd, upd_same]; rfl, qw.symm⟩, fun n hn => by rw [List.mem_singleton.mp hn]; exact s1.free hw0⟩
    refine ⟨fun μ σ H' => ∃ (L : List Nb) (pl : Nat) (v4 v5 v6 : Option V), μ = 1000 - pl ∧ σ = [some (.ref m), some (.ref d), some (.ref qa), some (.int pl), v4, v5, v6] ∧ WB H H' d qa L ∧ bare L = runW M pl ∧ pl ≤ L.length,
      ⟨_, _, 0, none, none, none, rfl, rfl, B0, rfl, Nat.zero_le _⟩, ?_⟩
    rintro μ σ H1 ⟨L, pl, v4, v5, v6, rfl, rfl, B, S, ple⟩
    have few : L.length ≤ M.rows.length := by
      have := (wok_run g pl).few
      rw [← S] at this
      unfold bare at this
      rw [List.length_map] at this
      exact this
    refine ⟨_, rfl, _, rfl, qa, _, rfl, .inl (SqL.of B.qq), ?_⟩
    rw [List.length_map]
    refine ⟨_, _, rfl, rfl, _, rfl, ?_⟩
    refine ite2 (fun c => ?_) (fun c => ?_)
    · have c : pl < L.length := by simpa using c
      have hx := List.getElem?_eq_getElem c
      generalize L[pl] = x at hx
      have hxL := List.mem_of_getElem? hx
      have bx := bare_at hx
      rw [S] at bx
      have st := (wok_run g pl).st _ (List.mem_of_getElem? bx)
      have hM1 := hM.same B.same
      refine ⟨fun σ' H' => ∃ (L : List Nb) (v4 v5 v6 : Option V), σ' = [some (.ref m), some (.ref d), some (.ref qa), some (.int ((pl + 1 : Nat) : Int)), v4, v5, v6] ∧ WB H H' d qa L ∧ bare L = runW M (pl + 1) ∧ pl + 1 ≤ L.length,
        fun σ' H' ⟨L', v4, v5, v6, e1, e2, e3, e4⟩ => ⟨1000 - (pl + 1), by omega, L', pl + 1, v4, v5, v6, rfl, e1, e2, e3, e4⟩, ?_⟩
      refine ⟨_, rfl, _, rfl, .inl ⟨qa, _, _, _, rfl, rfl, SqL.of B.qq, atI_get? (f := fun n : Nb => V.int n.st) (by omega) (by rw [show ((pl : Int)).toNat = pl by omega]; exact hx), ?_⟩⟩
      refine ⟨_, rfl, _, _, rfl, rfl, ?_⟩
      obtain ⟨w1, e1, e2, e3⟩ := g.row st
      obtain ⟨r, f1, f0⟩ := hM.rowAt st.1 e1
      have f2 := B.same _ _ f0
      refine ⟨_, rfl, .inr (.inl ⟨m, _, 2, .ref mv, rfl, rfl, SqT.of hM1.top, rfl, ?_⟩)⟩
      refine ⟨_, rfl, .inr (.inl ⟨mv, _, _, _, rfl, rfl, SqT.of hM1.mv, f1, ?_⟩)⟩
      refine ⟨r, rfl, .inr ⟨⟨_, SqT.of f2⟩, ?_⟩⟩
      have lw := g.rl w1 e2
      refine for_it (walk_enumT (xs := w1.map V.int)) (fun a σ H' => ∃ (L : List Nb) (v5 v6 : Option V), σ = [some (.ref m), some (.ref d), some (.ref qa), some (.int ((pl : Int) + 1)), some (.int x.st), v5, v6] ∧ WB H H' d qa L ∧ bare L = procW M (x.st, x.wd) (runW M pl) a ∧ L[pl]? = some x)
        ⟨L, v5, v6, rfl, B, S, hx⟩ (fun i σ H' _ ⟨_, _, _, _, b, _⟩ => SqT.of (b.same _ _ f0)) ?_ ?_
      · clear B S hxL c few hM1 hx ple f2 v4 v5 v6
        rintro a y σ H2 H2' ha ⟨L, v5, v6, rfl, B, S, hx⟩ ⟨T, x', z, rfl, hT, rfl, h1, h2⟩
        obtain ⟨b, hb, rfl⟩ := ofV h2
        cases h1
        rw [List.length_map] at ha
        have hxL := List.mem_of_getElem? hx
        have few : L.length ≤ 30 := by
          have := ((wok_run g pl).proc g bx a (by omega)).1.few
          rw [← S] at this
          unfold bare at this
          rw [List.length_map] at this
          omega
        have nx : M.next x.st (a : Int) = b := by
          unfold Mach.next
          rw [e3, List.getD_eq_getElem?_getD, show ((a : Int)).toNat = a by omega, hb]
          rfl
        have B := B.on (same_upd (o := .tup [.int (a : Int), .int b]) (Same.refl _) hT)
        have hTT : (upd H2 T (.tup [.int (a : Int), .int b])) T = some (.tup [.int (a : Int), .int b]) := upd_same
        generalize upd H2 T (.tup [.int (a : Int), .int b]) = H3 at B hTT
        refine ⟨T, _, rfl, SqT.of hTT, rfl, _, _, rfl, _, _, rfl, rfl, ?_⟩
        refine ⟨_, rfl, _, rfl, d, _, rfl, DGet.k (k := Sum.inl b) B.dd, ?_⟩
        rcases valWn b L with ⟨q, new⟩ | ⟨n, hn, e, q, _⟩
        · rw [q]
          refine ⟨_, rfl, ?_⟩
          have self : valV (dictW L) (Sum.inl x.st) = some (.ref x.wa) := by
            rcases valWn x.st L with ⟨_, q⟩ | ⟨n, hn, e, q, _⟩
            · exact absurd rfl (q x hxL)
            · have nod := ((wok_run g pl).proc g bx a (by omega)).1.nod
              rw [← S] at nod
              unfold bare at nod
              rw [List.map_map] at nod
              rw [q, nodup_inj nod hn hxL e]
          refine ⟨_, rfl, _, rfl, d, .ref x.wa, rfl, (by rw [← self]; exact DGet.k (k := Sum.inl x.st) B.dd), ?_⟩
          refine ⟨_, rfl, (by show 1 ≤ sizeLine; decide), fun q1 hq1 => ?_⟩
          have Bb := B.on (same_upd (o := .lst [.int (a : Int)]) (Same.refl _) hq1)
          have lx : x.wd.length ≤ 30 := by
            have k := (wok_run g pl).ln pl _ bx
            have := (wok_run g pl).few
            have lt := (List.getElem?_eq_some_iff.mp bx).1
            show x.wd.length ≤ 30
            have : x.wd.length ≤ pl := k
            omega
          refine ⟨x.wa, q1, _, _, rfl, rfl, (Bb.wl x hxL).1, upd_same, ?_, fun wn hwn => ?_⟩
          · rw [List.length_map]
            exact Nat.le_of_lt (Nat.lt_of_le_of_lt (by show x.wd.length + 1 ≤ 1000; omega) (by decide))
          have Bc := Bb.on (same_upd (o := .lst (x.wd.map V.int ++ [.int (a : Int)])) (Same.refl _) hwn)
          have ewn : (upd (upd H3 q1 (.lst [.int (a : Int)])) wn (.lst (x.wd.map V.int ++ [.int (a : Int)]))) wn = some (.lst ((x.wd ++ [(a : Int)]).map V.int)) := by
            rw [upd_same, List.map_append]
            rfl
          have nq : wn ≠ qa := (ne_some hwn Bb.qq).symm
          have nf : H wn = none := Bb.same.free hwn
          generalize upd (upd H3 q1 (.lst [.int (a : Int)])) wn (.lst (x.wd.map V.int ++ [.int (a : Int)])) = H4 at Bc ewn
          refine ⟨_, rfl, _, rfl, d, _, rfl, DPut.k (k := Sum.inl b) Bc.dd ?_, ?_⟩
          · unfold dictW
            rw [List.length_map]
            exact Nat.lt_of_le_of_lt few (by decide)
          rw [putK_new _ q]
          have dq : qa ≠ d := fun z => by
            have h1 := Bc.dd
            rw [← z, Bc.qq] at h1
            cases h1
          have eq5 : (upd H4 d (.dK (dictW L ++ [(Sum.inl b, V.ref wn)]))) qa = some (.lst (L.map fun n => V.int n.st)) := by
            rw [upd_ne dq]
            exact Bc.qq
          refine ⟨_, rfl, .inl ⟨rfl, _, SqL.of eq5⟩, _, rfl, qa, _, _, rfl, rfl, eq5, ?_, ?_⟩
          · rw [List.length_map]
            exact Nat.lt_of_le_of_lt few (by decide)
          have P1 := Bc.push (n := ⟨b, x.wd ++ [(a : Int)], wn⟩) ewn nq nf
          have e5 : dictW (L ++ [⟨b, x.wd ++ [(a : Int)], wn⟩]) = dictW L ++ [(Sum.inl b, V.ref wn)] := by
            unfold dictW
            rw [List.map_append]
            rfl
          rw [e5] at P1
          have e6 : (L ++ [(⟨b, x.wd ++ [(a : Int)], wn⟩ : Nb)]).map (fun n => V.int n.st) = (L.map fun n => V.int n.st) ++ [V.int b] := by
            rw [List.map_append]
            rfl
          rw [e6] at P1
          refine ⟨_, _, _, rfl, P1, ?_, get_app1 hx⟩
          rw [procW_succ, ← S, ← nx]
          exact (addW_new (w := x.wd) (r := wn) fun n hn => by rw [nx]; exact new n hn).symm
        · rw [q]
          refine ⟨_, rfl, L, _, _, rfl, B, ?_, hx⟩
          rw [procW_succ, ← S]
          exact (addW_old hn (e.trans nx.symm)).symm
      · rintro σ H2 ⟨L, v5, v6, rfl, B, S, hx⟩
        rw [List.length_map] at S
        have lt := (List.getElem?_eq_some_iff.mp hx).1
        refine ⟨L, _, v5, v6, rfl, B, ?_, lt⟩
        rw [S, runW_some bx, show M.ls.toNat = w1.length by omega]
    · have e : pl = L.length := by simp at c; omega
      subst e
      have hl : runW M L.length = lastW M := runW_last g (by rw [← S]; unfold bare; rw [List.length_map]; exact Nat.le_refl _)
      rw [hl] at S
      have hM1 := hM.same B.same
      have l30 : (rs.map V.ref).length = M.rows.length := by rw [List.length_map, hM.len]
      refine ⟨_, rfl, .inr (.inl ⟨m, _, 2, .ref mv, rfl, rfl, SqT.of hM1.top, rfl, mv, _, rfl, .inr (SqT.of hM1.mv), ?_⟩)⟩
      rw [l30]
      refine ⟨_, rfl, by omega, by omega, fun D hD => ?_⟩
      refine lc_range (fun t H2 => ∃ us : List V, H2 = upd H1 D (.lst us) ∧ us.length = t ∧ ∀ x, x < t → ∃ v, us[x]? = some v ∧ WayV H H1 M x v) ⟨[], rfl, rfl, fun x hx => absurd hx (Nat.not_lt_zero _)⟩ ?_ ?_
      · rintro t H2 ht ⟨us, rfl, d1, d2⟩
        refine ⟨rfl, ?_⟩
        have B2 := B.on (same_upd (o := .lst us) (Same.refl _) hD)
        refine ⟨_, rfl, d, rfl, .inl ⟨_, .inl B2.dd⟩, _, rfl, _, DGet.k (k := Sum.inl ((0 : Int) + (t : Int))) B2.dd, ?_⟩
        refine ⟨_, upd_same, Nat.lt_of_le_of_lt (by omega : us.length ≤ 100) (by decide), us ++ [_], (by rw [upd_upd]), by rw [List.length_append, d1]; rfl, fun x hx => ?_⟩
        by_cases c : x < t
        · obtain ⟨v, a1, a2⟩ := d2 x c
          exact ⟨v, get_app1 a1, a2⟩
        · have e : x = us.length := by omega
          subst e
          refine ⟨_, by rw [List.getElem?_append_right (Nat.le_refl _), Nat.sub_self]; rfl, ?_⟩
          rw [show (0 : Int) + (t : Int) = (us.length : Int) by omega]
          unfold WayV wayW
          rw [← S]
          rcases valWn (us.length : Int) L with ⟨q, new⟩ | ⟨n, hn, e, q, q2⟩
          · rw [q]
            exact .inl ⟨look_none new, rfl⟩
          · rw [q]
            exact .inr ⟨_, _, q2, rfl, B.wf n hn, (B.wl n hn).1⟩
      · rintro H2 ⟨us, rfl, d1, d2⟩
        have d1 : us.length = M.rows.length := by simpa using d1
        refine fin _ D us (same_upd B.same hD) ⟨B.same.free hD, upd_same, d1, fun x hx => ?_⟩
        obtain ⟨v, a1, a2 | ⟨w, r, b1, b2, b3, b4⟩⟩ := d2 x (by simpa using hx)
        · exact ⟨v, a1, .inl a2⟩
        · exact ⟨v, a1, .inr ⟨w, r, b1, b2, b3, by rw [upd_ne (ne_some hD b4)]; exact b4⟩⟩
end
end K25

set_option Elab.async false
set_option linter.all false
set_option maxRecDepth 100000
set_option maxHeartbeats 4000000
/-! walks over lists, range with two bounds and comprehensions while an error is handled -/
namespace Mz
open PySem PySem.Spec PyProof.Rows L2 L2H HotX
theorem next_list_end_hot {prog : Program} {w : World} {A : Around} {E : Value → Shared → Prop} {s : Shared} {it t x1 : Addr} {i : Nat} {items : Array Value} {Q : Option Value → Shared → Prop} (hot : HotAt A x1 s.heap)
    (hit : s.heap.IsListIter it t i) (ht : s.heap.IsList t items) (hx : items[i]? = none) (hQ : ∀ h', Heap.ExtBut it s.heap h' → Q none { s with heap := h' }) : wpAny (model prog w) A (pyNext (.ref it)) Q E s := by
  obtain ⟨o, ho, hc, hd⟩ := id hit
  obtain ⟨ol, hol, _, nl, hdl⟩ := ht
  obtain ⟨hh, o1, vs1, h1, d1, c1⟩ := hot
  have tT : s.TypeIs (.ref it) "list_iterator" := hit.typeIs
  unfold pyNext
  refine wpAny_bind (wpAny_attempt (wpAny_callSpecial?_slot (name := Str.ofString "__next__") tT slot_listiter_next (wpAny_call_entry slot_listiter_next tT entry_listiter_next ?_ (args_listiter_next _))))
  show wpAny _ _ (field (.ref it) 0 >>= fun v => _) _ _ s
  refine wpAny_bind (wpAny_field ho hd (x := .ref t) rfl ?_)
  show wpAny _ _ (ite ((Value.ref t == Value.none) = true) _ _) _ _ s
  rw [if_neg (fun z : (Value.ref t == Value.none) = true => Bool.false_ne_true z)]
  show wpAny _ _ (field (.ref it) 1 >>= fun v => _) _ _ s
  refine wpAny_bind (wpAny_field ho hd (x := .int i 0) rfl ?_)
  show wpAny _ _ (seqItems? (.ref t) >>= fun v => _) _ _ s
  refine wpAny_bind (wpAny_seqItems hol hdl ?_)
  simp only [Int.toNat_natCast, hx]
  have apart : x1 ≠ it := fun z => by
    rw [z, ho] at h1
    cases h1
    rw [hd] at d1
    injection d1 with d1
    rw [← d1] at c1
    cases c1
  refine wpAny_bind (wpAny_rule (wpAny_bind (wpAny_setField ho hd (by simp) ?_)))
  show wpAny _ _ ((newExc (.type "StopIteration") []) >>= fun v => _) _ _ _
  refine wpAny_bind ?_
  simp only [newExc, newTuple]
  refine wpAny_bind (wpAny_newObj_type ?_ (by size_fits))
  refine wpAny_bind (m := firstArgMember _ _) (wpAny_of_eq (a := Value.none) (by first | rfl | (simp only [firstArgMember] <;> rfl)) ?_)
  refine wpAny_newObj_type ?_ (by size_fits)
  have h1b : (s.heap.update it (Obj.mapFields (·.setIfInBounds 0 Value.none))).get? x1 = some o1 := by
    rw [Heap.get?_update_other _ _ (fun z => apart z.symm)]
    exact h1
  refine raiseNew_hot ⟨hh, o1, vs1, Heap.get?_push_of_some _ (Heap.get?_push_of_some _ h1b), d1, c1⟩ (Nat.ne_of_lt (Heap.lt_size (Heap.get?_push_of_some _ h1b)))
    (Heap.get?_push_size _ rfl) rfl (by first | (simp; done) | (simp; omega) | (simp only [Array.size_append]; simp; omega)) ?_
  refine wpAny_bind (wpAny_isInstance (T := "StopIteration") (b := true) ⟨_, (Heap.get?_update_self _ (Heap.get?_push_size _ rfl) rfl), rfl⟩ isSubtype_stop ?_)
  refine wpAny_pure (hQ _ fun b u nb e => ?_)
  have e1 : (s.heap.update it (Obj.mapFields (·.setIfInBounds 0 Value.none))).get? b = some u := by
    rw [Heap.get?_update_other _ _ (fun z => nb z.symm)]
    exact e
  rw [Heap.get?_update_other _ _ (fun z => Nat.lt_irrefl _ (show _ < _ by have := Heap.lt_size (Heap.get?_push_of_some { cls := Value.type "tuple", data := Data.seq #[] } e1); rw [← z] at this; exact this))]
  exact Heap.get?_push_of_some _ (Heap.get?_push_of_some _ e1)
theorem turn_listH {P : Program} {w : World} {K : PySem.W.Frag} {tg : Expr} (a it : Addr) : TurnH P w K tg (Itl K a) [it] it (fun i h => h.IsListIter it a i) where
  mem := List.mem_singleton.mpr rfl
  obj := fun i h ⟨o, e, c, d⟩ b hb => by
    rw [List.mem_singleton.mp hb]
    exact ⟨o, e, fun v z => by rw [d] at z; cases z⟩
  keep := fun i h h' st k => st.at fun o e => k it (List.mem_singleton.mpr rfl) o e
  item := by
    rintro X rfl rfl rfl hc i pins s σ H E I hf st ⟨xs, x, hq, hx⟩
    obtain ⟨its, rv, p, _⟩ := I.list hq
    obtain ⟨u, hu, ru⟩ := rv.get hx
    obtain ⟨f0, f1, f2, f3, f4, f5⟩ := hf it (List.mem_singleton.mpr rfl)
    have tp : s.heap.IsList a its.toArray := p.isList
    refine wpAny_pyNext_list_item st tp (x := u) (by simpa using hu) fun h' st' sb => ?_
    have J : Inv X pins σ H { s with heap := h' } := I.turned (t' := s.toks) (fun b o hb e => (sb.2 b hb).trans e) f0 f1 f3 f4 f5
    obtain ⟨o, e, c, d⟩ := id st'
    refine ⟨u, rfl, go_of (s := { s with heap := h' }) e c d (by decide) ⟨x, H, J, ru, ⟨rfl, fun ys hy => ?_⟩, st', fun b hb => (hf b hb).1⟩⟩
    rw [I.list_inj hy hq]
    exact hx
  done := by
    rintro X rfl rfl rfl hc i pins s σ H E I hf st ⟨xs, hq, hx⟩
    obtain ⟨its, rv, p, _⟩ := I.list hq
    obtain ⟨f0, f1, f2, f3, f4, f5⟩ := hf it (List.mem_singleton.mpr rfl)
    have hl := rv.length
    obtain ⟨x1, hot⟩ := hc.at I
    have tp : s.heap.IsList a its.toArray := p.isList
    exact next_list_end_hot hot st tp (by simp; omega) fun h' eb => ⟨rfl, I.turned (t' := s.toks) (fun b o hb e => eb b o hb e) f0 f1 f3 f4 f5⟩
  self := fun _ _ _ _ _ st h => wpAny_pyIter_listiter st h
theorem pi_listH {X : Cx} {tg l : Expr} {tl : TE} (hl : PE X l tl) : PIH X tg l (iList X.K tl) := by
  refine ⟨fun pins s σ H R I h => thn (hl.run pins s σ H _ I h) fun v s1 ⟨x, H1, I1, r1, a, e, ⟨xs, hq⟩, q⟩ => ?_⟩
  subst e
  cases r1
  obtain ⟨its, rv, p, _⟩ := I1.list hq
  have tp : s1.heap.IsList a its.toArray := p.isList
  refine wpAny_pyIter_list tp ⟨s1.heap.objs.size, [s1.heap.objs.size], _, _, H1, rfl, I1.kept (t' := s1.toks) (fun b o e => Heap.get?_push_of_some _ e), turn_listH a _, ⟨_, Heap.get?_push_size _ rfl, rfl, rfl⟩, fun b hb => ?_, q⟩
  rw [List.mem_singleton.mp hb]
  exact I1.fpOk (Nat.le_refl _) (I1.hok.fresh (Nat.le_refl _))
section
variable {X : Cx} {tg : Expr}
theorem pi_range2H {a b : Expr} {ta : TA} {p pos : Pos} (hg : Gl X "range") (hm : X.mg "range" = none) (ha : PA X [a, b] ta) (h1 : starEach [a, b] X.env = [(false, eval a X.env), (false, eval b X.env)] := by rfl) (h2 : starEach [b] X.env = [(false, eval b X.env)] := by rfl) :
    PIH X tg (.Call (.Name "range" p) [a, b] [] pos) (iRng2 ta) := by
  refine ⟨fun pins s σ H R I h => Call_ (ld_blt I hg hm boot_range (PyProof.Rows.callWith_type1 (thn (ha.run pos pins s σ H _ I h) fun us s1 ⟨vs, H1, I1, r1, q1⟩ => ?_) (by rw [h1, h2]) (by rw [h2]; rfl)))⟩
  obtain ⟨i, j, rfl, ⟨q1, q2, q3, q4⟩, q⟩ := q1
  cases r1 with
  | cons ra rr =>
    cases rr with
    | cons rb rn =>
      cases rn
      obtain ⟨_, rfl⟩ := ra
      obtain ⟨_, rfl⟩ := rb
      exact call_range_2 (range_itH I1 q1 q2 q3 q4 q)
end
/-! ### a comprehension while an error is handled: its block keeps that error's object as a pin -/
section
variable {X : Cx} {p : Addr × Obj}
/-- a pin moved between the context and the state's own -/
theorem inv_toPn {B : Cx} {σ : L2.St} {H : Hp} {s : Shared} (hb : B.pn = []) (I : Inv B [p] σ H s) : Inv { B with pn := [p] } [] σ H s :=
  ⟨⟨I.ok.mod, I.ok.kind, I.ok.glob, I.ok.blt, I.ok.above, I.ok.inj, I.ok.has, I.ok.cab, I.ok.hd, I.ok.frames, I.ok.stk, I.ok.exf, I.ok.bs, I.ok.bsz, I.ok.noex, I.ok.exfs, I.ok.funs, I.ok.frf⟩, I.os, I.bare, I.base, I.loc, I.cell, I.free, I.freeC,
    fun q hq => I.pin q (by rw [hb]; simpa using hq), I.hok, I.len⟩
theorem inv_fromPn {B : Cx} {σ : L2.St} {H : Hp} {s : Shared} (hb : B.pn = []) (I : Inv { B with pn := [p] } [] σ H s) : Inv B [p] σ H s :=
  ⟨⟨I.ok.mod, I.ok.kind, I.ok.glob, I.ok.blt, I.ok.above, I.ok.inj, I.ok.has, I.ok.cab, I.ok.hd, I.ok.frames, I.ok.stk, I.ok.exf, I.ok.bs, I.ok.bsz, I.ok.noex, I.ok.exfs, I.ok.funs, I.ok.frf⟩, I.os, I.bare, I.base, I.loc, I.cell, I.free, I.freeC,
    fun q hq => I.pin q (by rw [hb] at hq; simpa using hq), I.hok, I.len⟩
theorem fp_toPn {B : Cx} {H : Hp} {b : Addr} (hb : B.pn = []) (h : FpOk B [p] H b) : FpOk { B with pn := [p] } [] H b :=
  ⟨h.1, h.2.1, h.2.2.1, h.2.2.2.1, h.2.2.2.2.1, fun q hq => h.2.2.2.2.2 q (by rw [hb]; simpa using hq)⟩
variable {B : Cx} {tg : Expr} {J : It} {fp : List Addr} {it : Addr} {tn : Nat → Heap → Prop} {i : Nat} {s : Shared} {σ : L2.St} {H : Hp} {E : Value → Shared → Prop}
theorem hot_done (T : TurnH B.prog B.w B.K tg J fp it tn) (hb : B.pn = []) (h1 : Hot1 B.A p) (I : Inv B [p] σ H s) (hf : ∀ b ∈ fp, FpOk B [p] H b) (st : tn i s.heap) (h : J.stop i H) :
    wpAny (model B.prog B.w) B.A (pyNext (.ref it)) (fun r s1 => r = none ∧ Inv B [p] σ H s1) E s :=
  thn (T.done { B with pn := [p] } rfl rfl rfl ⟨p, h1, List.mem_cons_self⟩ i [] s σ H E (inv_toPn hb I) (fun b hbm => fp_toPn hb (hf b hbm)) st h) fun _ _ ⟨a, b⟩ => ⟨a, inv_fromPn hb b⟩
theorem hot_item (T : TurnH B.prog B.w B.K tg J fp it tn) (hb : B.pn = []) (h1 : Hot1 B.A p) (I : Inv B [p] σ H s) (hf : ∀ b ∈ fp, FpOk B [p] H b) (st : tn i s.heap) (h : J.go i H) :
    wpAny (model B.prog B.w) B.A (pyNext (.ref it)) (fun r s1 => ∃ u, r = some u ∧
      wpAny (model B.prog B.w) B.A (letOwnedTupleGo tg (.ref it) u) (fun _ s2 => ∃ x H', Inv B [p] σ H' s2 ∧ RelV x u ∧ J.yld i H x H' ∧ tn (i + 1) s2.heap ∧ ∀ b ∈ fp, H' b = none) E s1) E s :=
  thn (T.item { B with pn := [p] } rfl rfl rfl ⟨p, h1, List.mem_cons_self⟩ i [] s σ H E (inv_toPn hb I) (fun b hbm => fp_toPn hb (hf b hbm)) st h) fun _ _ ⟨u, a, b⟩ => ⟨u, a, thn b fun _ _ ⟨x, H', c, d⟩ => ⟨x, H', inv_fromPn hb c, d⟩⟩
end
section
variable {X : Cx}
/-- [elt for tg in iter if ..] -/
theorem pe_lcH {elt tg iter : Expr} {ifs : List Expr} {scope : Scope} {own : List (Str × Nat)} {pos : Pos} {wi : TI} {g : TG} {tt : TT} {te : TE} (hc : HotC X) (hN : X.N.Nodup) (hi : PIH X tg iter wi) (ok : BlkOk X.N X.env.scope scope own)
    (hg : ∀ (s : Shared) (H : Hp) (C : Addr) (cl : List (Str × Addr)) (fp : List Addr), PG (X.blk s H scope (compEnvC scope cl C X.env) fp) tg g) (ht : ∀ (s : Shared) (H : Hp) (C : Addr) (cl : List (Str × Addr)) (fp : List Addr), PTs (X.blk s H scope (compEnvC scope cl C X.env) fp) ifs tt)
    (he : ∀ (s : Shared) (H : Hp) (C : Addr) (cl : List (Str × Addr)) (fp : List Addr), PE (X.blk s H scope (compEnvC scope cl C X.env) fp) elt te) (hs : ∀ x, foldedSetIterable iter X.env x = pure x := by intro _; rfl) :
    PE X (.ListComp elt [⟨tg, iter, ifs, 0⟩] scope pos) (tLc wi g tt te (own.map (·.2))) := by
  refine ⟨fun pins s σ H Q I h => ?_⟩
  obtain ⟨p, hot, hp⟩ := hc
  have fr : ∀ y ∈ scope.names, y.2 = .free → ∃ c, X.env.cells.lookup y.1 = some c := fun y hy e => (ok.free y hy e).elim (fun k => I.ok.has _ (.inl k)) (fun k => I.ok.has _ (.inr k))
  rw [eval_ListComp]
  refine wpAny_comprehension_free (use := none) rfl hs (closure_ok fr) ok.kind (fun y hy e => by rw [ok.uniq y hy, e]) (thn (hi.run pins s σ H _ I h) fun _ _ hx => thn hx fun itv s2 h2 => ?_)
  obtain ⟨it, fp, tn, J, H2, rfl, I2, T, st2, f2, q⟩ := h2
  refine wpAny_newObj_type (newEnv_comp ?_) (by show 0 ≤ sizeLine; decide)
  generalize eD : s2.heap.objs.size = D
  obtain ⟨W, ⟨m0, w0⟩, turn⟩ := q D (I2.hok.fresh (Nat.le_of_eq eD))
  generalize e3 : ({ s2 with heap := s2.heap.push { cls := .type "list", data := .seq ([] : List Value).toArray } } : Shared) = s3
  have hp3 : s3.heap = s2.heap.push { cls := .type "list", data := .seq ([] : List Value).toArray } := by rw [← e3]
  have I3 : Inv X pins σ (upd H2 D (.lst [])) s3 := by
    subst e3
    exact I2.laid (t' := s2.toks) (fun b o e => Heap.get?_push_of_some _ e) (Nat.le_of_eq eD) ⟨Nat.zero_le _, [], 0, .nil, by rw [← eD]; exact Heap.get?_push_size _ rfl⟩
  have below : ∀ b ∈ fp, b < s2.heap.objs.size := fun b hb => let ⟨_, e, _⟩ := T.obj _ _ st2 b hb; Heap.lt_size e
  have f3 : ∀ b ∈ fp, FpOk X pins (upd H2 D (.lst [])) b ∧ b < s3.heap.objs.size := fun b hb =>
    ⟨⟨(upd_ne (by rw [← eD]; exact Nat.ne_of_lt (below b hb))).trans (f2 b hb).1, (f2 b hb).2⟩, by rw [hp3, Heap.size_push]; exact Nat.lt_succ_of_lt (below b hb)⟩
  have st3 : tn 0 s3.heap := T.keep _ _ _ st2 fun b _ o e => by rw [hp3]; exact Heap.get?_push_of_some _ e
  have B0 := block_start I3 ok hN f3
  -- the error's object, as a pin of the block
  have pin3 := I3.pin p (List.mem_append_left _ hp)
  have pinB : s3.heap.get? p.1 = some p.2 ∧ p.1 ∉ frs X.stack := by
    refine ⟨pin3.1, ?_⟩
    rcases I3.ok.stk with e | ⟨e, e2⟩
    · rw [e]
      exact pin3.2.2.2.1
    · rw [e]
      intro z
      unfold frs at z
      rw [List.filterMap_cons, e2] at z
      rcases List.mem_cons.mp z with z | z
      · exact pin3.2.2.1 z
      · exact pin3.2.2.2.1 z
  generalize ecl : cellsFrom (s3.heap.objs.size + 1) scope.names (cloFrom X.env.cells scope.names []) = cl at B0
  have pg := hg s3 (upd H2 D (.lst [])) s3.heap.objs.size cl fp
  have pt := ht s3 (upd H2 D (.lst [])) s3.heap.objs.size cl fp
  have pe := he s3 (upd H2 D (.lst [])) s3.heap.objs.size cl fp
  show codeAny _ _ (.compStart (.ListComp elt [⟨tg, iter, ifs, 0⟩] scope pos) 0 (.ref it) (.ref D) (compEnvC scope cl s3.heap.objs.size X.env)) (compPost (model X.prog X.w) X.A X.xe none (EP X pins σ Q) (.ref D) s3.heap.objs.size) { s3 with heap := pushCells (s3.heap.push { cls := .type "dict", data := .dict #[] }) scope.names }
  have fB : ∀ b ∈ fp, (upd H2 D (.lst [])) b = none := fun b hb => (f3 b hb).1.1
  generalize eH : upd H2 D (.lst []) = H3 at *
  generalize ec : compEnvC scope cl s3.heap.objs.size X.env = ce at *
  have cL : ce.locals = s3.heap.objs.size := by subst ec; rfl
  generalize e4 : ({ s3 with heap := pushCells (s3.heap.push { cls := .type "dict", data := .dict #[] }) scope.names } : Shared) = s4 at *
  have kp4 : ∀ b o, s3.heap.get? b = some o → s4.heap.get? b = some o := fun b o e => by rw [← e4]; exact pushCells_keeps _ _ _ _ (Heap.get?_push_of_some _ e)
  have I4 : Inv (X.blk s3 H3 scope ce fp) [p] (wipe σ (own.map (·.2))) H3 s4 := B0.pins_of fun q hq => by
    rw [List.mem_singleton.mp hq]
    exact ⟨kp4 _ _ pinB.1, pin3.2.1, by show p.1 ≠ ce.locals; rw [cL]; exact Nat.ne_of_lt (Heap.lt_size pinB.1), pinB.2, pin3.2.2.2.2⟩
  have st4 : tn 0 s4.heap := T.keep _ _ _ st3 fun b _ o e => kp4 b o e
  have apart : ∀ b ∈ fp, p.1 ≠ b := fun b hb => (f3 b hb).1.2.2.2.2.2 p (List.mem_append_left _ hp)
  have still : ∀ {σ' : L2.St} {H' : Hp} {s' : Shared}, Inv (X.blk s3 H3 scope ce fp) [p] σ' H' s' → (∀ b ∈ fp, H' b = none) → ∀ b ∈ fp, FpOk (X.blk s3 H3 scope ce fp) [p] H' b := fun I' hn b hb =>
    ⟨hn b hb, (I'.ok.exf b hb).1, I'.ok.exfs b hb, .inl hb, (I'.ok.exf b hb).2, fun q hq => by rw [List.mem_singleton.mp (show q ∈ [p] from hq)]; exact apart b hb⟩
  have loop : codeAny (model X.prog X.w) X.A (.compLoop (.ListComp elt [⟨tg, iter, ifs, 0⟩] scope pos) 0 (.ref it) (.ref D) ce) (compPost (model X.prog X.w) X.A X.xe none (EP X pins σ Q) (.ref D) s3.heap.objs.size) s4 := by
    refine compLoop_any (fun n s' => ∃ i H', Inv (X.blk s3 H3 scope ce fp) [p] (wipe σ (own.map (·.2))) H' s' ∧ tn i s'.heap ∧ (∀ b ∈ fp, H' b = none) ∧ W i n H') ?_ m0 ⟨0, H3, I4, st4, fB, w0⟩
    rintro n s5 ⟨i, H5, I5, st5, n5, w5⟩
    rcases turn i n H5 w5 with ⟨stop, qq⟩ | ⟨go, Nx, hNx, step⟩
    · refine thnF (hot_done (B := X.blk s3 H3 scope ce fp) (E := fun _ _ => False) T rfl hot I5 (still I5 n5) st5 stop) fun r s6 ⟨hr, I6⟩ => ?_
      subst hr
      have I7 : Inv X pins σ H5 s6 := I3.call' (ch := fp) I6.os I6.base I6.hok I6.bare fun b hb => ⟨(f3 b hb).1.2.2.2.1, (f3 b hb).1.2.1, (f3 b hb).1.2.2.2.2.1, (f3 b hb).1.2.2.2.2.2⟩
      have nC : H5 s3.heap.objs.size = none := by
        rw [← cL]
        exact I6.free
      obtain ⟨m, hn, _⟩ := I6.loc
      refine ⟨m, by rw [← cL]; exact hn, fun h'' sb => ?_⟩
      obtain ⟨g0, g1, g2, g3, g4, g5⟩ := I3.fpOk (H' := H5) (Nat.le_refl _) nC
      exact ⟨.ref D, H5, I7.turned (t' := s6.toks) (fun b o hb e => (sb.2 b hb).trans e) g0 g1 g3 g4 g5, rfl, qq⟩
    · refine thnF (hot_item (B := X.blk s3 H3 scope ce fp) (E := fun _ _ => False) T rfl hot I5 (still I5 n5) st5 go) fun r s6 ⟨u, hr, h6⟩ => ?_
      subst hr
      refine thnF h6 fun _ s7 ⟨x, H7, I7, r7, y7, st7, n7⟩ => ?_
      refine thnF (pg.run _ s7 _ H7 x u _ (I7.pinned (still I7 n7) (T.obj _ _ st7)) r7 (step x H7 y7)) fun _ s8 ⟨σ8, H8, I8, hw8, q8⟩ => ?_
      refine thnF (pt.run _ s8 σ8 H8 _ I8 q8) fun b s9 ⟨H9, I9, q9⟩ => ?_
      have next : ∀ {s' : Shared} {H' : Hp}, Inv (X.blk s3 H3 scope ce fp) ([p] ++ pinsAt fp s7.heap) σ8 H' s' → Nx H' → ∃ m, m < n ∧ ∃ i H', Inv (X.blk s3 H3 scope ce fp) [p] (wipe σ (own.map (·.2))) H' s' ∧ tn i s'.heap ∧ (∀ b ∈ fp, H' b = none) ∧ W i m H' := fun {s' H'} I' nx => by
        obtain ⟨m', hm, w'⟩ := hNx H' nx
        have at7 : ∀ b ∈ fp, ∀ o, s7.heap.get? b = some o → s'.heap.get? b = some o ∧ H' b = none := fun b hb o e =>
          have z := I'.pin (b, o) (List.mem_append_right _ (List.mem_append_right _ (mem_pinsAt hb e)))
          ⟨z.1, z.2.1⟩
        refine ⟨m', hm, i + 1, H', (I'.unpinned (pins := [p])).weak (by rw [← hw8, wipe_length]) (fun j v e => (wipe_some (hw8 ▸ e)).1), T.keep _ _ _ st7 fun b hb o e => (at7 b hb o e).1, fun b hb => ?_, w'⟩
        obtain ⟨o, e, _⟩ := T.obj _ _ st7 b hb
        exact (at7 b hb o e).2
      cases b with
      | false => exact next I9 q9
      | true =>
        refine thnF (pe.run _ s9 σ8 H9 _ I9 q9) fun z s10 ⟨yv, H10, I10, r10, acc, hD, hz, nx⟩ => ?_
        exact app_ok (X := X.blk s3 H3 scope ce fp) I10 hD hz r10 fun s11 I11 => next I11 nx
  exact codeAny_compStart_list loop (T.self X.A 0 _ _ _ st4 loop)
end
end Mz

set_option Elab.async false
set_option linter.all false
set_option maxRecDepth 100000
set_option maxHeartbeats 4000000
/-! dicts whose keys are tuples: a comprehension that makes one, del -/
namespace Mz
open PySem PySem.Spec PyProof.Rows L2
/-- one more key in a dict under work -/
theorem dset_T {X : Cx} {pins : List (Addr × Obj)} {σ : L2.St} {H : Hp} {s : Shared} {E : Value → Shared → Prop} {D b : Addr} {kvs : List (List L2.Key × V)} {k : List L2.Key} {v : V} {u r : Value} {Q : Unit → Shared → Prop} (hu : X.A.units + 1 < cLine) (I : Inv X pins σ H s)
    (hD : H D = some (.dT kvs)) (hb : H b = some (.tup (k.map kV))) (hz : kvs.length < sizeLine) (ry : RelV (.ref b) u) (rv : RelV v r) (h : ∀ s', Inv X pins σ (upd H D (.dT (putK kvs k v))) s' → Q () s') : wpAny (model X.prog X.w) X.A (dictSet D u r) Q E s := by
  obtain rfl : u = Value.ref b := ry
  obtain ⟨_, nsys, ls, rel, dd⟩ := dt_of I.hok hD
  have few : ls.length ≤ sizeLine := by
    have := Paired.length rel
    omega
  have few2 : (putK kvs k v).length ≤ sizeLine := by
    have := length_putK kvs k v
    omega
  have key := key_of I.hok hb
  unfold dictSet
  have room : (tupleKind (mixKind X.prog X.w)).room X.A := show X.A.units < cLine by omega
  refine wpAny_holding (wpAny_bind ((tupleKind (mixKind X.prog X.w)).pyHash room key ?_))
  refine wpAny_dictSetHashed_heap (knd := tupleKind (mixKind X.prog X.w)) (hsz := few) room key dd fun h' dd' hs => h _ ?_
  obtain ⟨o, es, ep, ho, h2, h3, h4, _, h5⟩ := dd'
  refine d_write (I.tok _) (by rw [hD]; exact True.intro) hs ⟨o, ho⟩ ⟨few2, nsys, _, (rel.put k hb rv).keeps fun c ys ec => ?_, o, es, ep, ho, h2, h3, h4, h5⟩
  rw [upd_ne (ne_of ec hD (fun z => nomatch z))]
  exact ec
/-- del d[k] -/
def sDelT (td ty : TE) : TS := fun D σ H => td σ H fun x H1 => ty σ H1 fun y H2 => ∃ a b kvs k v, x = .ref a ∧ H2 a = some (.dT kvs) ∧ y = .ref b ∧ H2 b = some (.tup (k.map kV)) ∧ valV kvs k = some v ∧ D.nx σ (upd H2 a (.dT (dropK kvs k)))
theorem ps_delT {X : Cx} {o i : Expr} {pos tpos : Pos} {td ty : TE} (hu : X.A.units + 1 < cLine) (ho : PE X o td) (hi : PE X i ty) : PS X (.Delete [.Subscript o i tpos] pos) (sDelT td ty) := by
  refine ⟨fun pins s σ H D I h => ?_⟩
  refine wpAny_Delete (wpAny_deleteEach_cons (wpAny_delete_Subscript (thn (ho.run pins s σ H _ I h) fun u s1 ⟨x, H1, I1, rx, q1⟩ => thn (hi.run pins s1 σ H1 _ I1 q1) fun v s2 ⟨y, H2, I2, ry, a, b, kvs, k, v0, ex, ha, ey, hb, hv, q2⟩ => ?_)))
  subst ex ey
  obtain rfl : u = Value.ref a := rx
  obtain rfl : v = Value.ref b := ry
  obtain ⟨z, nsys, ls, rel, dd⟩ := dt_of I2.hok ha
  have few : ls.length ≤ sizeLine := by
    have := Paired.length rel
    omega
  refine wpAny_delItem_slot dd.typeIs (by decide) PySem.F.slot_dict_delitem (call_meetsIn PySem.F.slot_dict_delitem dd.typeIs PySem.F.entry_dict_delitem (PySem.F.args_dict_delitem_2 _ _) (meetsH_dict_delitem (tupleKind (mixKind X.prog X.w)) a b nsys)
    ⟨tupleKind_room_in1 hu, k, ls, key_of I2.hok hb, dd, few, fun p hp h' dd' hs => ?_, fun hn => ?_⟩)
  · obtain ⟨o, es, ep, hq, h2, h3, h4, _, h5⟩ := dd'
    have I3 := d_write (t' := s2.toks + (tupleKind (mixKind X.prog X.w)).draws k) (ob := .dT (dropK kvs k)) (I2.tok _) (by rw [ha]; exact True.intro) hs ⟨o, hq⟩ ⟨Nat.le_trans (dropK_le kvs k) z, nsys, _, (L2.DX.KT_drop k rel).keeps (fun c ys ec => (by rw [upd_ne (ne_of ec ha (fun z => nomatch z))]; exact ec)), o, es, ep, hq, h2, h3, h4, h5⟩
    exact wpAny_deleteEach_nil ⟨σ, _, I3, q2⟩
  · have r := rel.val k
    rw [hv, hn] at r
    exact (show False from r).elim
/-- {k: v for target in iter if ..}, the keys tuples: D the new dict -/
def tDcT (wi : TI) (g : TG) (tt : TT) (tk tv : TE) (ns : List Nat) : TE := fun σ H Q => wi σ H fun J H1 => ∀ D, H1 D = none →
  ∃ W : Nat → Nat → Hp → Prop, (∃ m, W 0 m (upd H1 D (.dT []))) ∧ ∀ i m H, W i m H →
    (J.stop i H ∧ Q (.ref D) H) ∨
    (J.go i H ∧ ∃ Nx : Hp → Prop, (∀ H', Nx H' → ∃ m', m' < m ∧ W (i + 1) m' H') ∧
      ∀ x H', J.yld i H x H' → g x (wipe σ ns) H' fun σ2 H2 => wipe σ2 ns = wipe σ ns ∧
        tt σ2 H2 fun c H3 => if c = true then (tk σ2 H3 fun y H4 => tv σ2 H4 fun z H5 => ∃ kvs k b, y = .ref b ∧ H5 b = some (.tup (k.map kV)) ∧ H5 D = some (.dT kvs) ∧ kvs.length < sizeLine ∧ Nx (upd H5 D (.dT (putK kvs k z)))) else Nx H3)
section
variable {X : Cx}
theorem pe_dcT {kx vx tg iter : Expr} {ifs : List Expr} {scope : Scope} {own : List (Str × Nat)} {pos : Pos} {wi : TI} {g : TG} {tt : TT} {tk tv : TE} (hu : X.A.units + 1 < cLine) (hc : X.calm = true) (hN : X.N.Nodup) (hi : PI X tg iter wi) (ok : BlkOk X.N X.env.scope scope own)
    (hg : ∀ (s : Shared) (H : Hp) (C : Addr) (cl : List (Str × Addr)) (fp : List Addr), PG (X.blk s H scope (compEnvC scope cl C X.env) fp) tg g) (ht : ∀ (s : Shared) (H : Hp) (C : Addr) (cl : List (Str × Addr)) (fp : List Addr), PTs (X.blk s H scope (compEnvC scope cl C X.env) fp) ifs tt)
    (hk : ∀ (s : Shared) (H : Hp) (C : Addr) (cl : List (Str × Addr)) (fp : List Addr), PE (X.blk s H scope (compEnvC scope cl C X.env) fp) kx tk) (he : ∀ (s : Shared) (H : Hp) (C : Addr) (cl : List (Str × Addr)) (fp : List Addr), PE (X.blk s H scope (compEnvC scope cl C X.env) fp) vx tv) (hs : ∀ x, foldedSetIterable iter X.env x = pure x := by intro _; rfl) :
    PE X (.DictComp kx vx [⟨tg, iter, ifs, 0⟩] scope pos) (tDcT wi g tt tk tv (own.map (·.2))) := by
  refine ⟨fun pins s σ H Q I h => ?_⟩
  have fr : ∀ y ∈ scope.names, y.2 = .free → ∃ c, X.env.cells.lookup y.1 = some c := fun y hy e => (ok.free y hy e).elim (fun k => I.ok.has _ (.inl k)) (fun k => I.ok.has _ (.inr k))
  rw [arm_eval_DictComp]
  refine wpAny_comprehension_free (use := none) rfl hs (closure_ok fr) ok.kind (fun y hy e => by rw [ok.uniq y hy, e]) (thn (hi.run pins s σ H _ I h) fun _ _ hx => thn hx fun itv s2 h2 => ?_)
  obtain ⟨it, fp, tn, J, H2, rfl, I2, T, st2, f2, q⟩ := h2
  refine wpAny_newObj_type (newEnv_comp ?_)
  generalize eD : s2.heap.objs.size = D
  obtain ⟨W, ⟨m0, w0⟩, turn⟩ := q D (I2.hok.fresh (Nat.le_of_eq eD))
  generalize e3 : ({ s2 with heap := s2.heap.push { cls := .type "dict", data := .dict #[] } } : Shared) = s3
  have hp3 : s3.heap = s2.heap.push { cls := .type "dict", data := .dict #[] } := by rw [← e3]
  have I3 : Inv X pins σ (upd H2 D (.dT [])) s3 := by
    subst e3
    exact I2.laid (t' := s2.toks) (fun b o e => Heap.get?_push_of_some _ e) (Nat.le_of_eq eD) (by rw [← eD]; exact dt_empty s2.heap I2.big)
  have below : ∀ b ∈ fp, b < s2.heap.objs.size := fun b hb => let ⟨_, e, _⟩ := T.obj _ _ st2 b hb; Heap.lt_size e
  have f3 : ∀ b ∈ fp, FpOk X pins (upd H2 D (.dT [])) b ∧ b < s3.heap.objs.size := fun b hb =>
    ⟨⟨(upd_ne (by rw [← eD]; exact Nat.ne_of_lt (below b hb))).trans (f2 b hb).1, (f2 b hb).2⟩, by rw [hp3, Heap.size_push]; exact Nat.lt_succ_of_lt (below b hb)⟩
  have st3 : tn 0 s3.heap := T.keep _ _ _ st2 fun b _ o e => by rw [hp3]; exact Heap.get?_push_of_some _ e
  have B0 := block_start I3 ok hN f3
  generalize ecl : cellsFrom (s3.heap.objs.size + 1) scope.names (cloFrom X.env.cells scope.names []) = cl at B0
  have pg := hg s3 (upd H2 D (.dT [])) s3.heap.objs.size cl fp
  have pt := ht s3 (upd H2 D (.dT [])) s3.heap.objs.size cl fp
  have pk := hk s3 (upd H2 D (.dT [])) s3.heap.objs.size cl fp
  have pe := he s3 (upd H2 D (.dT [])) s3.heap.objs.size cl fp
  show codeAny _ _ (.compStart (.DictComp kx vx [⟨tg, iter, ifs, 0⟩] scope pos) 0 (.ref it) (.ref D) (compEnvC scope cl s3.heap.objs.size X.env)) (compPost (model X.prog X.w) X.A X.xe none (EP X pins σ Q) (.ref D) s3.heap.objs.size) { s3 with heap := pushCells (s3.heap.push { cls := .type "dict", data := .dict #[] }) scope.names }
  have fB : ∀ b ∈ fp, (upd H2 D (.dT [])) b = none := fun b hb => (f3 b hb).1.1
  generalize eH : upd H2 D (.dT []) = H3 at *
  generalize ec : compEnvC scope cl s3.heap.objs.size X.env = ce at *
  have cL : ce.locals = s3.heap.objs.size := by subst ec; rfl
  generalize e4 : ({ s3 with heap := pushCells (s3.heap.push { cls := .type "dict", data := .dict #[] }) scope.names } : Shared) = s4 at *
  have kp4 : ∀ b o, s3.heap.get? b = some o → s4.heap.get? b = some o := fun b o e => by rw [← e4]; exact pushCells_keeps _ _ _ _ (Heap.get?_push_of_some _ e)
  have I4 : Inv (X.blk s3 H3 scope ce fp) [] (wipe σ (own.map (·.2))) H3 s4 := B0
  have st4 : tn 0 s4.heap := T.keep _ _ _ st3 fun b _ o e => kp4 b o e
  have still : ∀ {σ' : L2.St} {H' : Hp} {s' : Shared}, Inv (X.blk s3 H3 scope ce fp) [] σ' H' s' → (∀ b ∈ fp, H' b = none) → ∀ b ∈ fp, FpOk (X.blk s3 H3 scope ce fp) [] H' b := fun I' hn b hb =>
    ⟨hn b hb, (I'.ok.exf b hb).1, I'.ok.exfs b hb, .inl hb, (I'.ok.exf b hb).2, fun q hq => absurd (show q ∈ ([] : List (Addr × Obj)) from hq) (by simp)⟩
  have loop : codeAny (model X.prog X.w) X.A (.compLoop (.DictComp kx vx [⟨tg, iter, ifs, 0⟩] scope pos) 0 (.ref it) (.ref D) ce) (compPost (model X.prog X.w) X.A X.xe none (EP X pins σ Q) (.ref D) s3.heap.objs.size) s4 := by
    refine compLoop_anyD (fun n s' => ∃ i H', Inv (X.blk s3 H3 scope ce fp) [] (wipe σ (own.map (·.2))) H' s' ∧ tn i s'.heap ∧ (∀ b ∈ fp, H' b = none) ∧ W i n H') ?_ m0 ⟨0, H3, I4, st4, fB, w0⟩
    rintro n s5 ⟨i, H5, I5, st5, n5, w5⟩
    rcases turn i n H5 w5 with ⟨stop, qq⟩ | ⟨go, Nx, hNx, step⟩
    · refine thnF (T.done (X.blk s3 H3 scope ce fp) rfl rfl rfl hc i [] s5 _ H5 (fun _ _ => False) I5 (still I5 n5) st5 stop) fun r s6 ⟨hr, I6⟩ => ?_
      subst hr
      have I7 : Inv X pins σ H5 s6 := I3.call' (ch := fp) I6.os I6.base I6.hok I6.bare fun b hb => ⟨(f3 b hb).1.2.2.2.1, (f3 b hb).1.2.1, (f3 b hb).1.2.2.2.2.1, (f3 b hb).1.2.2.2.2.2⟩
      have nC : H5 s3.heap.objs.size = none := by
        rw [← cL]
        exact I6.free
      obtain ⟨m, hn, _⟩ := I6.loc
      refine ⟨m, by rw [← cL]; exact hn, fun h'' sb => ?_⟩
      obtain ⟨g0, g1, g2, g3, g4, g5⟩ := I3.fpOk (H' := H5) (Nat.le_refl _) nC
      exact ⟨.ref D, H5, I7.turned (t' := s6.toks) (fun b o hb e => (sb.2 b hb).trans e) g0 g1 g3 g4 g5, rfl, qq⟩
    · refine thnF (T.item (X.blk s3 H3 scope ce fp) rfl rfl rfl hc i [] s5 _ H5 (fun _ _ => False) I5 (still I5 n5) st5 go) fun r s6 ⟨u, hr, h6⟩ => ?_
      subst hr
      refine thnF h6 fun _ s7 ⟨x, H7, I7, r7, y7, st7, n7⟩ => ?_
      refine thnF (pg.run _ s7 _ H7 x u _ (I7.pinned (still I7 n7) (T.obj _ _ st7)) r7 (step x H7 y7)) fun _ s8 ⟨σ8, H8, I8, hw8, q8⟩ => ?_
      refine thnF (pt.run _ s8 σ8 H8 _ I8 q8) fun b s9 ⟨H9, I9, q9⟩ => ?_
      have next : ∀ {s' : Shared} {H' : Hp}, Inv (X.blk s3 H3 scope ce fp) ([] ++ pinsAt fp s7.heap) σ8 H' s' → Nx H' → ∃ m, m < n ∧ ∃ i H', Inv (X.blk s3 H3 scope ce fp) [] (wipe σ (own.map (·.2))) H' s' ∧ tn i s'.heap ∧ (∀ b ∈ fp, H' b = none) ∧ W i m H' := fun {s' H'} I' nx => by
        obtain ⟨m', hm, w'⟩ := hNx H' nx
        have at7 : ∀ b ∈ fp, ∀ o, s7.heap.get? b = some o → s'.heap.get? b = some o ∧ H' b = none := fun b hb o e =>
          have z := I'.pin (b, o) (List.mem_append_right _ (List.mem_append_right _ (mem_pinsAt hb e)))
          ⟨z.1, z.2.1⟩
        refine ⟨m', hm, i + 1, H', (I'.unpinned (pins := [])).weak (by rw [← hw8, wipe_length]) (fun j v e => (wipe_some (hw8 ▸ e)).1), T.keep _ _ _ st7 fun b hb o e => (at7 b hb o e).1, fun b hb => ?_, w'⟩
        obtain ⟨o, e, _⟩ := T.obj _ _ st7 b hb
        exact (at7 b hb o e).2
      cases b with
      | false => exact next I9 q9
      | true =>
        refine thnF (pk.run _ s9 σ8 H9 _ I9 q9) fun z s10 ⟨yk, H10, I10, r10, q10⟩ => ?_
        refine thnF (pe.run _ s10 σ8 H10 _ I10 q10) fun z2 s11 ⟨yv, H11, I11, r11, kvs, k, b, ek, eb, hD11, hz11, nx⟩ => ?_
        subst ek
        exact dset_T (X := X.blk s3 H3 scope ce fp) hu I11 hD11 eb hz11 r10 r11 fun s12 I12 => next I12 nx
  exact codeAny_compStart_dict loop (T.self X.A 0 _ _ _ st4 loop)
end
end Mz

set_option Elab.async false
set_option linter.all false
/-! any walk, whatever a turn asks -/
namespace Mz
open PySem PySem.Spec PyProof.Rows L2
theorem it_any {J : It} {n : Nat} {G : Hp → Prop} {Y : Nat → Hp → V → Hp → Prop} (w : Walk J n G Y) {C : V → Hp → (Hp → Prop) → Prop} {E : Hp → Prop} {Hs : Hp} (Pv : Nat → Hp → Prop) (start : Pv 0 Hs) (still : ∀ i H, i ≤ n → Pv i H → G H)
    (turn : ∀ i x H H', i < n → Pv i H → Y i H x H' → C x H' (Pv (i + 1))) (done : ∀ H, Pv n H → E H) :
    ∃ W1 : Nat → Nat → Hp → Prop, (∃ m, W1 0 m Hs) ∧ ∀ j k H, W1 j k H → (J.stop j H ∧ E H) ∨ (J.go j H ∧ ∃ Nx1 : Hp → Prop, (∀ H', Nx1 H' → ∃ k', k' < k ∧ W1 (j + 1) k' H') ∧ ∀ x H', J.yld j H x H' → C x H' Nx1) := by
  refine ⟨fun j k H => k + j = n ∧ Pv j H, ⟨n, rfl, start⟩, fun j k H ⟨e, p⟩ => ?_⟩
  by_cases c : k = 0
  · have e : j = n := by omega
    subst e
    exact .inl ⟨w.stops H (still _ H (Nat.le_refl _) p), done H p⟩
  · have lt : j < n := by omega
    have gH := still j H (by omega) p
    exact .inr ⟨w.goes j H lt gH, Pv (j + 1), fun H' p' => ⟨k - 1, by omega, by omega, p'⟩, fun x H' y => turn j x H H' lt p (w.yields j H x H' lt gH y)⟩
end Mz

set_option Elab.async false
set_option linter.all false
set_option maxRecDepth 100000
set_option maxHeartbeats 4000000
/-! all words of a length, in their order; dicts whose keys are words -/
namespace Mz
open PySem PySem.Spec PyProof.Rows L2
def moreW (L : Nat) (w : List Int) : List (List Int) := (List.range L).map fun a : Nat => w ++ [(a : Int)]
def allW (L : Nat) : Nat → List (List Int)
  | 0 => [[]]
  | n + 1 => (allW L n).flatMap (moreW L)
theorem moreW_len {L : Nat} {w : List Int} : (moreW L w).length = L := by
  unfold moreW
  rw [List.length_map, List.length_range]
theorem flat_len {L : Nat} : ∀ ws : List (List Int), (ws.flatMap (moreW L)).length = ws.length * L
  | [] => by simp
  | w :: ws => by
    rw [List.flatMap_cons, List.length_append, moreW_len, flat_len ws, List.length_cons, Nat.succ_mul, Nat.add_comm]
theorem allW_len {L : Nat} : ∀ n, (allW L n).length = L ^ n
  | 0 => rfl
  | n + 1 => by
    show ((allW L n).flatMap (moreW L)).length = _
    rw [flat_len, allW_len n, Nat.pow_succ]
theorem allW_mem {L : Nat} : ∀ {n : Nat} {w : List Int}, w ∈ allW L n ↔ w.length = n ∧ Lt (L : Int) w
  | 0, w => by
    show w ∈ [[]] ↔ _
    rw [List.mem_singleton]
    constructor
    · rintro rfl
      exact ⟨rfl, fun z hz => absurd hz (by simp)⟩
    · rintro ⟨h, _⟩
      exact List.length_eq_zero_iff.mp h
  | n + 1, w => by
    show w ∈ (allW L n).flatMap (moreW L) ↔ _
    rw [List.mem_flatMap]
    constructor
    · rintro ⟨u, hu, hw⟩
      obtain ⟨a, ha, rfl⟩ := List.mem_map.mp hw
      obtain ⟨h1, h2⟩ := allW_mem.mp hu
      have := List.mem_range.mp ha
      exact ⟨by rw [List.length_append, h1]; rfl, lt_snoc.mpr ⟨h2, by omega, by omega⟩⟩
    · rintro ⟨h1, h2⟩
      rcases List.eq_nil_or_concat w with e | ⟨u, a, e⟩
      · rw [e] at h1
        cases h1
      · have e : w = u ++ [a] := by rw [e, List.concat_eq_append]
        subst e
        obtain ⟨q1, q2, q3⟩ := lt_snoc.mp h2
        rw [List.length_append] at h1
        refine ⟨u, allW_mem.mpr ⟨by simpa using h1, q1⟩, List.mem_map.mpr ⟨a.toNat, List.mem_range.mpr (by omega), ?_⟩⟩
        rw [show ((a.toNat : Nat) : Int) = a by omega]
theorem moreW_nodup {L : Nat} {w : List Int} : (moreW L w).Nodup := by
  unfold moreW
  refine List.Pairwise.map _ (fun a b h e => h ?_) List.nodup_range
  have := List.append_cancel_left e
  injection this with this
  omega
theorem allW_nodup {L : Nat} : ∀ n, (allW L n).Nodup
  | 0 => by show ([[]] : List (List Int)).Nodup; simp
  | n + 1 => by
    show ((allW L n).flatMap (moreW L)).Nodup
    have := allW_nodup (L := L) n
    generalize allW L n = ws at this
    induction ws with
    | nil => simp
    | cons w ws ih =>
      obtain ⟨h1, h2⟩ := List.nodup_cons.mp this
      rw [List.flatMap_cons]
      refine List.nodup_append.mpr ⟨moreW_nodup, ih h2, ?_⟩
      rintro x hx y hy rfl
      obtain ⟨a, ha, rfl⟩ := List.mem_map.mp hx
      obtain ⟨u, hu, hy⟩ := List.mem_flatMap.mp hy
      obtain ⟨b, hb, e⟩ := List.mem_map.mp hy
      have e2 := (List.append_inj' e rfl).1
      rw [e2] at hu
      exact h1 hu
theorem allW_head {L : Nat} (hL : 0 < L) : ∀ n, ∃ r, allW L n = List.replicate n (0 : Int) :: r
  | 0 => ⟨[], rfl⟩
  | n + 1 => by
    obtain ⟨r, e⟩ := allW_head hL n
    obtain ⟨m, rfl⟩ : ∃ m, L = m + 1 := ⟨L - 1, by omega⟩
    have e2 : moreW (m + 1) (List.replicate n (0 : Int)) = (List.replicate (n + 1) (0 : Int)) :: ((List.range m).map Nat.succ).map fun a : Nat => List.replicate n (0 : Int) ++ [(a : Int)] := by
      unfold moreW
      rw [List.range_succ_eq_map, List.map_cons, List.replicate_succ']
      rfl
    refine ⟨((List.range m).map Nat.succ).map (fun a : Nat => List.replicate n (0 : Int) ++ [(a : Int)]) ++ r.flatMap (moreW (m + 1)), ?_⟩
    show (allW (m + 1) n).flatMap (moreW (m + 1)) = _
    rw [e, List.flatMap_cons, e2, List.cons_append]
/-- a word as a key -/
def keyW (w : List Int) : List L2.Key := w.map Sum.inl
theorem keyW_inj {u v : List Int} (h : keyW u = keyW v) : u = v := by
  unfold keyW at h
  induction u generalizing v with
  | nil =>
    cases v with
    | nil => rfl
    | cons _ _ => cases h
  | cons a u ih =>
    cases v with
    | nil => cases h
    | cons b v =>
      injection h with h1 h2
      injection h1 with h1
      rw [h1, ih h2]
theorem keyW_V (w : List Int) : (keyW w).map kV = w.map V.int := by
  unfold keyW
  rw [List.map_map]
  rfl
/-- words with the value True -/
def kvsW (ws : List (List Int)) : List (List L2.Key × V) := ws.map fun w => (keyW w, V.bl true)
theorem kvsW_len {ws : List (List Int)} : (kvsW ws).length = ws.length := List.length_map ..
theorem valW {ws : List (List Int)} {w : List Int} : valV (kvsW ws) (keyW w) = if w ∈ ws then some (.bl true) else none := by
  induction ws with
  | nil => rfl
  | cons u ws ih =>
    show valV ((keyW u, V.bl true) :: kvsW ws) (keyW w) = _
    by_cases e : u = w
    · subst e
      rw [valV_pos rfl, if_pos List.mem_cons_self]
    · rw [valV_neg (fun z => e (keyW_inj z)), ih]
      by_cases h : w ∈ ws
      · rw [if_pos h, if_pos (List.mem_cons_of_mem _ h)]
      · rw [if_neg h, if_neg fun z => (List.mem_cons.mp z).elim (fun q => e q.symm) h]
theorem dropW {ws : List (List Int)} {w : List Int} : dropK (kvsW ws) (keyW w) = kvsW (ws.filter fun u => decide (u ≠ w)) := by
  induction ws with
  | nil => rfl
  | cons u ws ih =>
    show dropK ((keyW u, V.bl true) :: kvsW ws) (keyW w) = _
    unfold dropK at ih ⊢
    by_cases e : u = w
    · subst e
      rw [List.filter_cons_of_neg (by simp), ih, List.filter_cons_of_neg (by simp)]
    · rw [List.filter_cons_of_pos (by simpa using fun z => e (keyW_inj z)), ih, List.filter_cons_of_pos (by simpa using e)]
      rfl
theorem putW {ws : List (List Int)} {w : List Int} (h : w ∉ ws) : putK (kvsW ws) (keyW w) (.bl true) = kvsW (ws ++ [w]) := by
  rw [putK_new _ (by rw [valW, if_neg h])]
  unfold kvsW
  rw [List.map_append]
  rfl
/-- tuples of ints, by their addresses -/
def TupL (H : Hp) (ts : List Addr) (ws : List (List Int)) : Prop := ts.length = ws.length ∧ ∀ (i : Nat) (a : Addr) (w : List Int), ts[i]? = some a → ws[i]? = some w → IT H a w
theorem TupL.same {H H' : Hp} {ts : List Addr} {ws : List (List Int)} (h : TupL H ts ws) (s : Same H H') : TupL H' ts ws := ⟨h.1, fun i a w p q => s _ _ (h.2 i a w p q)⟩
theorem TupL.nil {H : Hp} : TupL H [] [] := ⟨rfl, fun i a w h => by simp at h⟩
theorem TupL.snoc {H : Hp} {ts : List Addr} {ws : List (List Int)} {t : Addr} {w : List Int} (h : TupL H ts ws) (e : IT H t w) : TupL H (ts ++ [t]) (ws ++ [w]) := by
  refine ⟨by rw [List.length_append, List.length_append, h.1]; rfl, fun i a u p q => ?_⟩
  rcases get_app q with y | ⟨y1, y2⟩
  · rcases get_app p with v | ⟨v1, v2⟩
    · exact h.2 i a u v y
    · have := (List.getElem?_eq_some_iff.mp y).1
      rw [← h.1] at this
      omega
  · rcases get_app p with v | ⟨v1, v2⟩
    · have := (List.getElem?_eq_some_iff.mp v).1
      rw [h.1] at this
      omega
    · rw [v2, y2]
      exact e
theorem TupL.push {H : Hp} {ts : List Addr} {ws : List (List Int)} {D t : Addr} {w : List Int} {vs : List V} (h : TupL H ts ws) (hD : H D = some (.lst vs)) (e : IT H t w) {o : HO} : TupL (upd H D o) (ts ++ [t]) (ws ++ [w]) := by
  have nt : ∀ {x : Addr} {u : List Int}, IT H x u → x ≠ D := fun h z => by
    unfold IT at h
    rw [z, hD] at h
    cases h
  have k := h.snoc e
  exact ⟨k.1, fun i a u p q => (upd_ne (nt (k.2 i a u p q))).trans (k.2 i a u p q)⟩
end Mz

set_option Elab.async false
set_option linter.all false
set_option maxRecDepth 100000
set_option maxHeartbeats 4000000
/-! the ways to all states; the words of a suite, and that they tell all machines up to a size -/
namespace Mz
open PySem PySem.Spec PyProof.Rows L2
section
variable {M : Mach}
theorem addW_mem {s : Int} {w : List Int} {L : List Wn} {a : Int} {n : Wn} (h : n ∈ L) : n ∈ addW M s w L a := by
  unfold addW
  split
  · exact h
  · exact List.mem_append_left _ h
theorem procW_mem {n m : Wn} {L : List Wn} (h : m ∈ L) : ∀ j, m ∈ procW M n L j
  | 0 => h
  | j + 1 => by rw [procW_succ]; exact addW_mem (procW_mem h j)
theorem addW_has {s : Int} {w : List Int} {L : List Wn} {a : Int} : ∃ m ∈ addW M s w L a, m.1 = M.next s a := by
  unfold addW
  split
  · rename_i c
    obtain ⟨m, hm, e⟩ := List.any_eq_true.mp c
    exact ⟨m, hm, of_decide_eq_true e⟩
  · exact ⟨_, List.mem_append_right _ List.mem_cons_self, rfl⟩
theorem procW_has {n : Wn} {L : List Wn} : ∀ (j a : Nat), a < j → ∃ m ∈ procW M n L j, m.1 = M.next n.1 (a : Int)
  | j + 1, a, h => by
    rw [procW_succ]
    by_cases c : a = j
    · subst c
      exact addW_has
    · obtain ⟨m, hm, e⟩ := procW_has (n := n) (L := L) j a (by omega)
      exact ⟨m, addW_mem hm, e⟩
/-- each word leads to its state; it is empty or a word of the list and one letter more -/
structure Wtrue (M : Mach) (L : List Wn) : Prop where
  run : ∀ n ∈ L, M.run 0 n.2 = n.1
  pre : ∀ n ∈ L, n.2 = [] ∨ ∃ m ∈ L, ∃ a : Nat, (a : Int) < M.ls ∧ n.2 = m.2 ++ [(a : Int)]
theorem Wtrue.add {L : List Wn} (k : Wtrue M L) {n : Wn} (h : n ∈ L) {a : Nat} (ha : (a : Int) < M.ls) : Wtrue M (addW M n.1 n.2 L (a : Int)) := by
  refine ⟨fun m hm => ?_, fun m hm => ?_⟩
  · unfold addW at hm
    split at hm
    · exact k.run m hm
    · rcases List.mem_append.mp hm with z | z
      · exact k.run m z
      · rw [List.mem_singleton.mp z, run_snoc, k.run n h]
  · unfold addW at hm
    split at hm
    · rcases k.pre m hm with z | ⟨m', h1, b, h2, h3⟩
      · exact .inl z
      · exact .inr ⟨m', addW_mem h1, b, h2, h3⟩
    · rcases List.mem_append.mp hm with z | z
      · rcases k.pre m z with z | ⟨m', h1, b, h2, h3⟩
        · exact .inl z
        · exact .inr ⟨m', addW_mem h1, b, h2, h3⟩
      · rw [List.mem_singleton.mp z]
        exact .inr ⟨n, addW_mem h, a, ha, rfl⟩
theorem Wtrue.proc {L : List Wn} (k : Wtrue M L) {n : Wn} (h : n ∈ L) : ∀ j : Nat, (j : Int) ≤ M.ls → Wtrue M (procW M n L j)
  | 0, _ => k
  | j + 1, hj => by
    rw [procW_succ]
    exact (Wtrue.proc k h j (by omega)).add (procW_mem h j) (by omega)
theorem wtrue_run (g : Good M) : ∀ i, Wtrue M (runW M i)
  | 0 => ⟨fun n hn => by rw [List.mem_singleton.mp hn]; rfl, fun n hn => by rw [List.mem_singleton.mp hn]; exact .inl rfl⟩
  | i + 1 => by
    have ih := wtrue_run g i
    have l1 := g.l1
    cases e : (runW M i)[i]? with
    | none => rw [runW_none e]; exact ih
    | some n => rw [runW_some e]; exact ih.proc (List.mem_of_getElem? e) _ (by omega)
theorem runW_keep {i j : Nat} {n : Wn} (h : (runW M i)[j]? = some n) : ∀ d, (runW M (i + d))[j]? = some n
  | 0 => h
  | d + 1 => by
    have ih := runW_keep h d
    show (runW M (i + d + 1))[j]? = some n
    cases e : (runW M (i + d))[i + d]? with
    | none => rw [runW_none e]; exact ih
    | some m =>
      rw [runW_some e]
      generalize M.ls.toNat = c
      induction c with
      | zero => exact ih
      | succ c ihc => rw [procW_succ]; exact addW_keep ihc
theorem mem_runW {i : Nat} {n : Wn} (h : n ∈ runW M i) (d : Nat) : n ∈ runW M (i + d) := by
  obtain ⟨j, hj⟩ := List.mem_iff_getElem?.mp h
  exact List.mem_of_getElem? (runW_keep hj d)
/-- what can be reached is in the list -/
theorem lastW_closed (g : Good M) {n : Wn} (h : n ∈ lastW M) {a : Int} (h0 : 0 ≤ a) (h1 : a < M.ls) : ∃ m ∈ lastW M, m.1 = M.next n.1 a := by
  obtain ⟨j, hj⟩ := List.mem_iff_getElem?.mp h
  have few := (wok_run g M.rows.length).few
  have jl := (List.getElem?_eq_some_iff.mp hj).1
  have jl : j < (runW M M.rows.length).length := jl
  have e : (runW M j)[j]? = some n := by
    -- the entry at j is there as soon as all before it are done
    have key : ∀ i, j ≤ i → ∀ m : Wn, (runW M i)[j]? = some m → (runW M j)[j]? = some m := by
      intro i
      induction i with
      | zero => intro hi m hm; rw [show j = 0 by omega] at hm ⊢; exact hm
      | succ i ih =>
        intro hi m hm
        by_cases c : j = i + 1
        · rw [c] at hm ⊢; exact hm
        · cases q : (runW M j)[j]? with
          | some m' =>
            have := runW_keep q (i + 1 - j)
            rw [show j + (i + 1 - j) = i + 1 by omega, hm] at this
            exact this.symm
          | none =>
            have l : (runW M j).length ≤ j := by
              rcases Nat.lt_or_ge j (runW M j).length with z | z
              · rw [List.getElem?_eq_getElem z] at q; cases q
              · exact z
            have := runW_end l (i + 1 - j)
            rw [show j + (i + 1 - j) = i + 1 by omega] at this
            rw [this, q] at hm
            cases hm
    exact key M.rows.length (by omega) n hj
  obtain ⟨m, hm, em⟩ := procW_has (M := M) (n := n) (L := runW M j) M.ls.toNat a.toNat (by omega)
  rw [← runW_some e] at hm
  have := mem_runW hm (M.rows.length - (j + 1))
  rw [show j + 1 + (M.rows.length - (j + 1)) = M.rows.length by omega] at this
  exact ⟨m, this, by rw [em, Int.toNat_of_nonneg h0]⟩
theorem lastW_zero (g : Good M) : ((0 : Int), ([] : List Int)) ∈ lastW M := by
  have := mem_runW (M := M) (i := 0) (n := (0, [])) List.mem_cons_self M.rows.length
  rwa [Nat.zero_add] at this
theorem lastW_reach (g : Good M) : ∀ v, Lt M.ls v → ∃ m ∈ lastW M, m.1 = M.run 0 v := by
  intro v
  induction v using snoc_ind with
  | h0 => exact fun _ => ⟨_, lastW_zero g, rfl⟩
  | hs v a ih =>
    intro h
    obtain ⟨h1, h2, h3⟩ := lt_snoc.mp h
    obtain ⟨m, hm, e⟩ := ih h1
    obtain ⟨m', hm', e'⟩ := lastW_closed g hm h2 h3
    exact ⟨m', hm', by rw [e', e, run_snoc]⟩
theorem look_of (g : Good M) {n : Wn} (h : n ∈ lastW M) : wayW M n.1 = some n.2 := by
  have k := wok_run g M.rows.length
  cases q : wayW M n.1 with
  | none =>
    have q : (lastW M).find? (fun m => decide (m.1 = n.1)) = none := by
      unfold wayW lookW at q
      cases e : (lastW M).find? (fun m => decide (m.1 = n.1)) with
      | none => rfl
      | some m => rw [e] at q; cases q
    have := List.find?_eq_none.mp q n h
    simp at this
  | some w =>
    have hm : (n.1, w) ∈ lastW M := lookW_mem q
    obtain ⟨i, hi⟩ := List.mem_iff_getElem?.mp h
    obtain ⟨j, hj⟩ := List.mem_iff_getElem?.mp hm
    have nod : ((lastW M).map (·.1)).Nodup := k.nod
    have li := (List.getElem?_eq_some_iff.mp hi).1
    have lj := (List.getElem?_eq_some_iff.mp hj).1
    have e1 : ((lastW M).map (·.1))[i]? = some n.1 := by rw [List.getElem?_map, hi]; rfl
    have e2 : ((lastW M).map (·.1))[j]? = some n.1 := by rw [List.getElem?_map, hj]; rfl
    have : i = j := (List.getElem?_inj (by rw [List.length_map]; exact li) nod).mp (e1.trans e2.symm)
    subst this
    rw [hi] at hj
    have : n = (n.1, w) := Option.some.inj hj
    rw [congrArg Prod.snd this]
/-- the way to a state that a word leads to -/
structure WayTo (M : Mach) (s : Int) (w : List Int) : Prop where
  lt : Lt M.ls w
  len : w.length + 1 ≤ M.rows.length
  run : M.run 0 w = s
  pre : w = [] ∨ ∃ (t : Int) (u : List Int) (a : Nat), M.St t ∧ wayW M t = some u ∧ (a : Int) < M.ls ∧ w = u ++ [(a : Int)]
theorem way_to (g : Good M) {s : Int} {w : List Int} (h : wayW M s = some w) : WayTo M s w := by
  have k := wok_run g M.rows.length
  have t := wtrue_run g M.rows.length
  have hm : (s, w) ∈ runW M M.rows.length := lookW_mem h
  obtain ⟨j, hj⟩ := List.mem_iff_getElem?.mp hm
  have l1 := k.ln j _ hj
  have jl := (List.getElem?_eq_some_iff.mp hj).1
  have few := k.few
  refine ⟨k.lt _ hm, ?_, t.run _ hm, ?_⟩
  · have l1 : w.length ≤ j := l1
    omega
  · rcases t.pre _ hm with z | ⟨m, h1, a, h2, h3⟩
    · exact .inl z
    · exact .inr ⟨m.1, m.2, a, k.st m h1, look_of g h1, h2, h3⟩
theorem way_some (F : Full M) {s : Int} (hs : M.St s) : ∃ w, wayW M s = some w ∧ WayTo M s w := by
  obtain ⟨v, hv, e⟩ := F.reach s hs
  obtain ⟨m, hm, em⟩ := lastW_reach F.good v hv
  have := look_of F.good hm
  rw [em, e] at this
  exact ⟨_, this, way_to F.good this⟩
end
/-! ### the suite -/
/-- the way to a state, as a word -/
def wy (M : Mach) (s : Nat) : List Int := (wayW M (s : Int)).getD []
def headsW (M : Mach) : List (List Int) := [] :: (List.range M.rows.length).flatMap fun s : Nat => moreW M.ls.toNat (wy M s)
def midsW (L e : Nat) : List (List Int) := (List.range (e + 1)).flatMap (allW L)
theorem mids_mem {L e : Nat} {m : List Int} : m ∈ midsW L e ↔ m.length ≤ e ∧ Lt (L : Int) m := by
  unfold midsW
  rw [List.mem_flatMap]
  constructor
  · rintro ⟨k, hk, h⟩
    have := List.mem_range.mp hk
    obtain ⟨h1, h2⟩ := allW_mem.mp h
    exact ⟨by omega, h2⟩
  · rintro ⟨h1, h2⟩
    exact ⟨m.length, List.mem_range.mpr (by omega), allW_mem.mpr ⟨rfl, h2⟩⟩
theorem heads_len {M : Mach} (g : Good M) : ((headsW M).length : Int) = M.rows.length * M.ls + 1 := by
  have l1 := g.l1
  unfold headsW
  have : ∀ l : List Nat, (l.flatMap fun s : Nat => moreW M.ls.toNat (wy M s)).length = l.length * M.ls.toNat := by
    intro l
    induction l with
    | nil => simp
    | cons x l ih => rw [List.flatMap_cons, List.length_append, moreW_len, ih, List.length_cons, Nat.succ_mul]; omega
  rw [List.length_cons, this, List.length_range]
  rw [show ((M.rows.length * M.ls.toNat + 1 : Nat) : Int) = (M.rows.length : Int) * (M.ls.toNat : Int) + 1 by push_cast; rfl, Int.toNat_of_nonneg (by omega)]
/-- a word of the suite -/
def InSuite (M : Mach) (e : Nat) (tails : List (List Int)) (w : List Int) : Prop := ∃ h ∈ headsW M, ∃ m ∈ midsW M.ls.toNat e, ∃ t ∈ tails, w = h ++ m ++ t
theorem head_ok {M : Mach} (F : Full M) {h : List Int} (hh : h ∈ headsW M) : Lt M.ls h ∧ h.length ≤ M.rows.length := by
  have l1 := F.good.l1
  rcases List.mem_cons.mp hh with z | z
  · rw [z]
    exact ⟨fun x hx => absurd hx (by simp), Nat.zero_le _⟩
  · obtain ⟨s, hs, hw⟩ := List.mem_flatMap.mp z
    have sl := List.mem_range.mp hs
    obtain ⟨a, ha, rfl⟩ := List.mem_map.mp hw
    have al := List.mem_range.mp ha
    obtain ⟨w, e, t⟩ := way_some F (s := (s : Int)) ⟨by omega, by omega⟩
    have ew : wy M s = w := by unfold wy; rw [e]; rfl
    rw [ew]
    refine ⟨lt_snoc.mpr ⟨t.lt, by omega, by omega⟩, ?_⟩
    have := t.len
    rw [List.length_append]
    exact this
/-- how many things have a property -/
noncomputable def many (n : Nat) (P : Nat → Prop) : Nat := ((List.range n).filter fun x => @decide (P x) (Classical.propDecidable _)).length
theorem many_le (n : Nat) (P : Nat → Prop) : many n P ≤ n := by
  have := List.length_filter_le (fun x => @decide (P x) (Classical.propDecidable _)) (List.range n)
  rw [List.length_range] at this
  exact this
theorem many_lt {n : Nat} {P R : Nat → Prop} (h : ∀ x, P x → R x) (e : ∃ x, x < n ∧ R x ∧ ¬ P x) : many n P < many n R := by
  unfold many
  obtain ⟨x, hx, r, p⟩ := e
  exact filter_lt _ (fun y _ z => by simp at z ⊢; exact h y z) ⟨x, List.mem_range.mpr hx, by simpa using r, by simpa using p⟩
theorem many_all {n : Nat} {P : Nat → Prop} (h : n ≤ many n P) {x : Nat} (hx : x < n) : P x := Classical.byContradiction fun no => by
  have := many_lt (n := n) (P := P) (R := fun _ => True) (fun _ _ => trivial) ⟨x, hx, trivial, no⟩
  have := many_le n fun _ => True
  omega
/-- n different things -/
theorem many_ge {n k : Nat} {P : Nat → Prop} (f : Nat → Nat) (h : ∀ i, i < k → f i < n ∧ P (f i)) (inj : ∀ i j, i < k → j < k → f i = f j → i = j) : k ≤ many n P := by
  have key : ∀ j, j ≤ k → j ≤ many n fun x => ∃ i, i < j ∧ f i = x := by
    intro j
    induction j with
    | zero => exact fun _ => Nat.zero_le _
    | succ j ih =>
      intro hj
      have := ih (by omega)
      have := many_lt (n := n) (P := fun x => ∃ i, i < j ∧ f i = x) (R := fun x => ∃ i, i < j + 1 ∧ f i = x) (fun x ⟨i, a, b⟩ => ⟨i, by omega, b⟩) ⟨f j, (h j (by omega)).1, ⟨j, by omega, rfl⟩, fun ⟨i, a, b⟩ => by
        have := inj i j (by omega) (by omega) b
        omega⟩
      omega
  have h1 := key k (Nat.le_refl _)
  rcases Nat.lt_or_ge (many n P) (many n fun x => ∃ i, i < k ∧ f i = x) with z | z
  · exfalso
    have le : many n (fun x => ∃ i, i < k ∧ f i = x) ≤ many n P := by
      unfold many
      exact filter_le _ fun y _ q => by
        simp only [decide_eq_true_eq] at q ⊢
        obtain ⟨i, a, b⟩ := q
        exact b ▸ (h i a).2
    omega
  · omega
section
variable {L N : Mach} {W : List (List Int)} {e : Nat}
/-- alike along the tails -/
def AlT (L N : Mach) (W : List (List Int)) (s q : Int) : Prop := ∀ t ∈ W, outsA L s t = outsA N q t
theorem outs_suffix {u t : List Int} (h : outsA L 0 (u ++ t) = outsA N 0 (u ++ t)) : outsA L (L.run 0 u) t = outsA N (N.run 0 u) t := by
  rw [outs_eq] at h ⊢
  intro i hi
  have := h (u.length + i) (by rw [List.length_append]; omega)
  rw [List.take_length_add_append] at this
  rw [run_app, run_app] at this
  exact this
/-- a machine with few states more that answers alike along all words of the suite answers alike -/
theorem suite_tells (F : Full L) (gN : Good N) (ls : N.ls = L.ls) (few : N.rows.length ≤ L.rows.length + e) (nil : [] ∈ W) (tell : ∀ i j : Nat, i < L.rows.length → j < L.rows.length → AL L W i j → i = j)
    (h : ∀ w, InSuite L e W w → outsA L 0 w = outsA N 0 w) : Sim L N 0 0 := by
  have gL := F.good
  have l1 := gL.l1
  have eL : ((L.ls.toNat : Nat) : Int) = L.ls := Int.toNat_of_nonneg (by omega)
  -- heads and middles
  have al : ∀ {x m : List Int}, x ∈ headsW L → m.length ≤ e → Lt L.ls m → AlT L N W (L.run 0 (x ++ m)) (N.run 0 (x ++ m)) := fun {x m} hx hm lm t ht =>
    outs_suffix (h _ ⟨x, hx, m, mids_mem.mpr ⟨hm, by rw [eL]; exact lm⟩, t, ht, rfl⟩)
  have wy_some : ∀ s : Nat, s < L.rows.length → wayW L (s : Int) = some (wy L s) ∧ WayTo L (s : Int) (wy L s) := fun s hs => by
    obtain ⟨w, e1, t⟩ := way_some F (s := (s : Int)) ⟨by omega, by omega⟩
    have ew : wy L s = w := by unfold wy; rw [e1]; rfl
    rw [ew]
    exact ⟨e1, t⟩
  have wy_more : ∀ (s a : Nat), s < L.rows.length → (a : Int) < L.ls → wy L s ++ [(a : Int)] ∈ headsW L := fun s a hs ha =>
    List.mem_cons_of_mem _ (List.mem_flatMap.mpr ⟨s, List.mem_range.mpr hs, List.mem_map.mpr ⟨a, List.mem_range.mpr (by omega), rfl⟩⟩)
  have wy_head : ∀ s : Nat, s < L.rows.length → wy L s ∈ headsW L := fun s hs => by
    obtain ⟨e1, t⟩ := wy_some s hs
    rcases t.pre with z | ⟨t', u, a, ht', hu, ha, z⟩
    · rw [z]
      exact List.mem_cons_self
    · have h0 := ht'.1
      have h1 := ht'.2
      have eu : wy L t'.toNat = u := by unfold wy; rw [Int.toNat_of_nonneg h0, hu]; rfl
      rw [z, ← eu]
      exact wy_more _ a (by omega) ha
  -- way and middle, then one letter more
  have al0 : ∀ {s : Nat} {m : List Int}, s < L.rows.length → m.length ≤ e + 1 → Lt L.ls m → AlT L N W (L.run 0 (wy L s ++ m)) (N.run 0 (wy L s ++ m)) := fun {s m} hs hm lm => by
    cases m with
    | nil => exact al (m := []) (wy_head s hs) (Nat.zero_le _) (fun z hz => absurd hz (by simp))
    | cons a m =>
      have ha := lm a List.mem_cons_self
      have := al (m := m) (wy_more s a.toNat hs (by omega)) (by simpa using hm) (fun z hz => lm z (List.mem_cons_of_mem _ hz))
      rw [Int.toNat_of_nonneg ha.1, List.append_assoc] at this
      exact this
  -- the states of N behind a way and at most j letters
  let S : Nat → Nat → Prop := fun j q => ∃ (s : Nat) (m : List Int), s < L.rows.length ∧ m.length ≤ j ∧ Lt L.ls m ∧ N.run 0 (wy L s ++ m) = (q : Int)
  have stN : ∀ {s : Nat} {m : List Int}, s < L.rows.length → Lt L.ls m → N.St (N.run 0 (wy L s ++ m)) := fun {s m} hs lm => by
    refine gN.runs gN.st0 ?_
    rw [ls]
    intro z hz
    rcases List.mem_append.mp hz with y | y
    · exact (wy_some s hs).2.lt z y
    · exact lm z y
  have uniq : ∀ {i j : Nat} {q : Int}, i < L.rows.length → j < L.rows.length → AlT L N W (i : Int) q → AlT L N W (j : Int) q → i = j := fun {i j q} hi hj h1 h2 => tell i j hi hj fun t ht => (h1 t ht).trans (h2 t ht).symm
  have base : L.rows.length ≤ many N.rows.length (S 0) := by
    have nn : Lt L.ls [] := fun z hz => absurd hz (by simp)
    refine many_ge (fun i => (N.run 0 (wy L i)).toNat) (fun i hi => ?_) (fun i j hi hj e1 => ?_)
    · have st := stN (s := i) (m := []) hi nn
      rw [List.append_nil] at st
      have a1 := st.1
      have a2 := st.2
      exact ⟨by omega, i, [], hi, Nat.le_refl _, nn, by rw [List.append_nil, Int.toNat_of_nonneg a1]⟩
    · have si := stN (s := i) (m := []) hi nn
      have sj := stN (s := j) (m := []) hj nn
      have ai := al0 (s := i) (m := []) hi (Nat.zero_le _) nn
      have aj := al0 (s := j) (m := []) hj (Nat.zero_le _) nn
      rw [List.append_nil] at si sj ai aj
      rw [(wy_some i hi).2.run] at ai
      rw [(wy_some j hj).2.run] at aj
      have a1 := si.1
      have a2 := sj.1
      have e2 : N.run 0 (wy L i) = N.run 0 (wy L j) := by
        have e1 : (N.run 0 (wy L i)).toNat = (N.run 0 (wy L j)).toNat := e1
        omega
      rw [e2] at ai
      exact uniq hi hj ai aj
  have up : ∀ j q, S j q → S (j + 1) q := fun j q ⟨s, m, a, b, c, d⟩ => ⟨s, m, a, by omega, c, d⟩
  have mono : ∀ {j k q}, j ≤ k → S j q → S k q := fun {j k q} hjk ⟨s, m, a, b, c, d⟩ => ⟨s, m, a, by omega, c, d⟩
  -- closed at some place
  have clos : ∃ j, j ≤ e ∧ ∀ q, S (j + 1) q → S j q := by
    refine Classical.byContradiction fun no => ?_
    have no : ∀ j, j ≤ e → ∃ q, S (j + 1) q ∧ ¬ S j q := fun j hj => Classical.byContradiction fun n => no ⟨j, hj, fun q hq => Classical.byContradiction fun n2 => n ⟨q, hq, n2⟩⟩
    have grow : ∀ j, j ≤ e + 1 → L.rows.length + j ≤ many N.rows.length (S j) := by
      intro j
      induction j with
      | zero => intro _; exact base
      | succ j ih =>
        intro hj
        have := ih (by omega)
        obtain ⟨q, h1, h2⟩ := no j (by omega)
        have ql : q < N.rows.length := by
          obtain ⟨s, m, a, b, c, d⟩ := h1
          have st := stN a c
          rw [d] at st
          have := st.2
          omega
        have := many_lt (n := N.rows.length) (up j) ⟨q, ql, h1, h2⟩
        omega
    have := grow (e + 1) (Nat.le_refl _)
    have := many_le N.rows.length (S (e + 1))
    omega
  obtain ⟨j, hj, cl⟩ := clos
  -- all that can be reached
  have main : ∀ v, Lt L.ls v → AlT L N W (L.run 0 v) (N.run 0 v) ∧ ∃ (s : Nat) (m : List Int), s < L.rows.length ∧ m.length ≤ j ∧ Lt L.ls m ∧ N.run 0 (wy L s ++ m) = N.run 0 v ∧ L.run 0 (wy L s ++ m) = L.run 0 v := by
    intro v
    induction v using snoc_ind with
    | h0 =>
      intro _
      have nn : Lt L.ls [] := fun z hz => absurd hz (by simp)
      have w0 : wy L 0 = [] := by unfold wy; rw [show (((0 : Nat)) : Int) = 0 from rfl, way_zero gL]; rfl
      have s0 : 0 < L.rows.length := by have := gL.s1; omega
      have := al0 (s := 0) (m := []) s0 (Nat.zero_le _) nn
      rw [w0] at this
      exact ⟨this, 0, [], s0, Nat.zero_le _, nn, by rw [w0]; rfl, by rw [w0]; rfl⟩
    | hs v a ih =>
      intro lv
      obtain ⟨h1, h2, h3⟩ := lt_snoc.mp lv
      obtain ⟨_, s, m, hs, hm, lm, eN, eL'⟩ := ih h1
      have lma : Lt L.ls (m ++ [a]) := lt_snoc.mpr ⟨lm, h2, h3⟩
      have A1 := al0 (s := s) (m := m ++ [a]) hs (by rw [List.length_append]; show m.length + 1 ≤ _; omega) lma
      rw [← List.append_assoc, run_snoc, run_snoc, eN, eL', ← run_snoc, ← run_snoc] at A1
      have sq := stN (s := s) (m := m ++ [a]) hs lma
      have q0 := sq.1
      have inS : S (j + 1) (N.run 0 (wy L s ++ (m ++ [a]))).toNat := ⟨s, m ++ [a], hs, by rw [List.length_append]; show m.length + 1 ≤ _; omega, lma, by rw [Int.toNat_of_nonneg q0]⟩
      obtain ⟨s', m', hs', hm', lm', e'⟩ := cl _ inS
      rw [Int.toNat_of_nonneg q0, ← List.append_assoc, run_snoc, eN, ← run_snoc] at e'
      have A2 := al0 (s := s') (m := m') hs' (by omega) lm'
      rw [e'] at A2
      have stL : ∀ {u : List Int}, Lt L.ls u → L.St (L.run 0 u) := fun h => gL.runs gL.st0 h
      have t1 := stL lv
      have t2 := stL (u := wy L s' ++ m') (by
        intro z hz
        rcases List.mem_append.mp hz with y | y
        · exact (wy_some s' hs').2.lt z y
        · exact lm' z y)
      have b1 := t1.1
      have b2 := t1.2
      have c1 := t2.1
      have c2 := t2.2
      have := uniq (i := (L.run 0 (v ++ [a])).toNat) (j := (L.run 0 (wy L s' ++ m')).toNat) (q := N.run 0 (v ++ [a])) (by omega) (by omega) (by rw [Int.toNat_of_nonneg b1]; exact A1) (by rw [Int.toNat_of_nonneg c1]; exact A2)
      exact ⟨A1, s', m', hs', hm', lm', e', by omega⟩
  intro v hv
  have := (main v hv).1 [] nil
  rw [outs_nil, outs_nil] at this
  injection this
end
end Mz

set_option Elab.async false
set_option linter.all false
set_option maxRecDepth 100000
set_option maxHeartbeats 4000000
/-! *=; a least machine is its own least one; how many words a suite may have; words found, each once -/
namespace Mz
open PySem PySem.Spec PyProof.Rows L2
section
variable {X : Cx}
/-- x *= y of ints -/
theorem ip_mul : PIp X .Mult (fun x y H Q => ∃ i j, x = V.int i ∧ y = V.int j ∧ CMul i j ∧ Q (.int (i * j)) H) := by
  intro pins s σ H x y v u Q I r1 r2 h
  obtain ⟨i, j, e1, e2, c, q⟩ := h
  subst e1
  subst e2
  obtain ⟨t, rfl⟩ := r1
  obtain ⟨t', rfl⟩ := r2
  exact imul_int ⟨.int _, H, I.tok _, ⟨_, rfl⟩, q⟩ c.ok
end
theorem ord_max {M : Mach} {G : List Int} (g : Good M) (r : Rep (EqM M) M.rows.length G) {k : Nat} (h : M.rows.length ≤ k) : ordAt M G k = ordAt M G M.rows.length :=
  ord_stop (ord_len g r M.rows.length) k h
theorem least_all {M N : Mach} {G F : List Int} (ls : M.ls = N.ls) (os : M.os = N.os) (gm : Good M) (gn : Good N) (rm : Rep (EqM M) M.rows.length G) (rn : Rep (EqM N) N.rows.length F) (s : Sim M N 0 0) :
    leastBy M G (ordAt M G M.rows.length) = leastBy N F (ordAt N F N.rows.length) := by
  have h := least_same ls os gm gn rm rn s (max M.rows.length N.rows.length)
  rw [ord_max gm rm (Nat.le_max_left _ _), ord_max gn rn (Nat.le_max_right _ _)] at h
  exact h
theorem least_self {M : Mach} {G : List Int} (g : Good M) (r : Rep (EqM M) M.rows.length G) {L : Mach} (e : L = leastBy M G (ordAt M G M.rows.length)) {F : List Int} (rf : Rep (EqM L) L.rows.length F) : leastBy L F (ordAt L F L.rows.length) = L := by
  have gL : Good L := by rw [e]; exact leastBy_good g r
  have s : Sim M L 0 0 := by rw [e]; exact leastBy_sim g r
  have := least_all (by rw [e]; rfl) (by rw [e]; rfl) g gL r rf s
  rw [← this, ← e]
/-- 1 + l + .. : k summands -/
def spw (l : Int) : Nat → Int
  | 0 => 0
  | k + 1 => spw l k + l ^ k
def mostW (l n : Int) (e : Nat) : Int := (n * l + 1) * spw l (e + 1) * (if n - 1 > 1 then n - 1 else 1)
theorem pow_pos1 {l : Int} (h : 1 ≤ l) : ∀ k : Nat, 1 ≤ l ^ k
  | 0 => by rw [Int.pow_zero]; decide
  | k + 1 => by
    rw [Int.pow_succ]
    have := pow_pos1 h k
    have := Int.mul_le_mul this h (by decide) (by omega)
    omega
theorem pow_le4 {l : Int} (h1 : 1 ≤ l) (h : l ≤ 4) : ∀ k : Nat, l ^ k ≤ 4 ^ k
  | 0 => by rw [Int.pow_zero, Int.pow_zero]; decide
  | k + 1 => by
    rw [Int.pow_succ, Int.pow_succ]
    have := pow_le4 h1 h k
    have := pow_pos1 h1 k
    exact Int.mul_le_mul (pow_le4 h1 h k) h (by omega) (by omega)
theorem pow4_mono {i j : Nat} (h : i ≤ j) : (4 : Int) ^ i ≤ 4 ^ j := by
  have : (4 : Nat) ^ i ≤ 4 ^ j := Nat.pow_le_pow_right (by decide) h
  have := Int.ofNat_le.mpr this
  push_cast at this
  exact this
theorem spw_lo {l : Int} (h : 1 ≤ l) : ∀ k : Nat, (k : Int) ≤ spw l k
  | 0 => by show (0 : Int) ≤ 0; decide
  | k + 1 => by
    have := spw_lo h k
    have := pow_pos1 h k
    show ((k + 1 : Nat) : Int) ≤ spw l k + l ^ k
    omega
theorem spw_hi {l : Int} (h1 : 1 ≤ l) (h : l ≤ 4) : ∀ k : Nat, spw l k ≤ 4 ^ k
  | 0 => by show (0 : Int) ≤ 4 ^ 0; decide
  | k + 1 => by
    have := spw_hi h1 h k
    have := pow_le4 h1 h k
    show spw l k + l ^ k ≤ 4 ^ (k + 1)
    rw [Int.pow_succ]
    have := pow_pos1 (l := 4) (by decide) k
    omega
theorem spw_pow {l : Int} (h1 : 1 ≤ l) : ∀ {k j : Nat}, j < k → l ^ j ≤ spw l k
  | k + 1, j, h => by
    show _ ≤ spw l k + l ^ k
    have p := pow_pos1 h1 k
    by_cases c : j = k
    · subst c
      have := spw_lo h1 j
      omega
    · have := spw_pow h1 (k := k) (j := j) (by omega)
      omega
theorem mids_len {L e : Nat} : ((midsW L e).length : Int) = spw (L : Int) (e + 1) := by
  have : ∀ k : Nat, (((List.range k).flatMap (allW L)).length : Int) = spw (L : Int) k := by
    intro k
    induction k with
    | zero => rfl
    | succ k ih =>
      rw [List.range_succ, List.flatMap_append, List.length_append, List.flatMap_cons, List.flatMap_nil, List.append_nil, allW_len]
      show _ = spw (L : Int) k + (L : Int) ^ k
      rw [← ih]
      push_cast
      rfl
  exact this (e + 1)
/-- the sizes of a suite that is allowed -/
theorem most_parts {l n : Int} {e : Nat} (h1 : 1 ≤ l) (n1 : 1 ≤ n) (h : mostW l n e ≤ 4000) : n * l + 1 ≤ 4000 ∧ spw l (e + 1) ≤ 4000 ∧ (e : Int) + 1 ≤ 4000 := by
  have s1 := spw_lo h1 (e + 1)
  unfold mostW at h
  have a1 : 1 ≤ n * l := by
    have := Int.mul_le_mul n1 h1 (by decide) (by omega)
    omega
  have m1 : (1 : Int) ≤ (if n - 1 > 1 then n - 1 else 1) := by split <;> omega
  generalize (if n - 1 > 1 then n - 1 else 1) = m at *
  generalize spw l (e + 1) = s at *
  have e1 : (n * l + 1) * s ≤ (n * l + 1) * s * m := by
    have := Int.mul_le_mul_of_nonneg_left m1 (c := (n * l + 1) * s) (Int.mul_nonneg (by omega) (by omega))
    omega
  have e2 : s ≤ (n * l + 1) * s := by
    have := Int.mul_le_mul_of_nonneg_right (show (1 : Int) ≤ n * l + 1 by omega) (c := s) (by omega)
    omega
  have e3 : n * l + 1 ≤ (n * l + 1) * s := by
    have := Int.mul_le_mul_of_nonneg_left (show (1 : Int) ≤ s by omega) (c := n * l + 1) (by omega)
    omega
  omega
/-! ### words found -/
def insW (ws : List (List Int)) (w : List Int) : List (List Int) := if w ∈ ws then ws else ws ++ [w]
theorem put_same {κ : Type} [DecidableEq κ] : ∀ {kvs : List (κ × V)} {k : κ} {v : V}, (kvs.map Prod.fst).Nodup → valV kvs k = some v → putK kvs k v = kvs := by
  intro kvs k v nd h
  have ha : (kvs.any fun kv => decide (kv.1 = k)) = true := by rw [valV_any, h]; rfl
  unfold putK
  rw [if_pos ha]
  have : ∀ kv ∈ kvs, (if kv.1 = k then (kv.1, v) else kv) = kv := fun kv hkv => by
    split
    · rename_i e
      have : valV kvs kv.1 = some kv.2 := by
        clear ha h
        induction kvs with
        | nil => cases hkv
        | cons p r ih =>
          rcases List.mem_cons.mp hkv with z | z
          · rw [z, valV_pos rfl]
          · have nd' := List.nodup_cons.mp nd
            rw [valV_neg fun y => nd'.1 (y ▸ List.mem_map.mpr ⟨kv, z, rfl⟩)]
            exact ih nd'.2 z
      rw [e, h] at this
      rw [← Option.some.inj this.symm]
    · rfl
  rw [List.map_congr_left this, List.map_id']
theorem put_ins {ws : List (List Int)} (nd : ws.Nodup) {w : List Int} : putK (kvsW ws) (keyW w) (.bl true) = kvsW (insW ws w) := by
  unfold insW
  split
  · rename_i h
    refine put_same ?_ (by rw [valW, if_pos h])
    unfold kvsW
    rw [List.map_map]
    exact List.pairwise_map.mpr (nd.imp fun ne e => ne (keyW_inj e))
  · rename_i h
    exact putW h
/-- the words of P, each once -/
structure Found (ws P : List (List Int)) : Prop where
  nd : ws.Nodup
  mem : ∀ w, w ∈ ws ↔ w ∈ P
  few : ws.length ≤ P.length
theorem Found.nil : Found [] [] := ⟨List.nodup_nil, fun _ => Iff.rfl, Nat.le_refl _⟩
theorem Found.ins {ws P : List (List Int)} (f : Found ws P) (w : List Int) : Found (insW ws w) (P ++ [w]) := by
  unfold insW
  split
  · rename_i h
    refine ⟨f.nd, fun u => ?_, by rw [List.length_append]; exact Nat.le_trans f.few (Nat.le_add_right _ _)⟩
    rw [List.mem_append, List.mem_singleton, f.mem]
    constructor
    · exact .inl
    · rintro (z | z)
      · exact z
      · rw [z]
        exact (f.mem w).mp h
  · rename_i h
    refine ⟨List.nodup_append.mpr ⟨f.nd, by simp, fun a ha b hb => ?_⟩, fun u => by rw [List.mem_append, List.mem_append, f.mem], by rw [List.length_append, List.length_append]; exact Nat.add_le_add_right f.few _⟩
    rw [List.mem_singleton.mp hb]
    exact fun z => h (z ▸ ha)
theorem Found.to {ws P R : List (List Int)} (f : Found ws P) (e : P = R) : Found ws R := e ▸ f
end Mz

set_option Elab.async false
set_option linter.all false
set_option maxRecDepth 100000
set_option maxHeartbeats 4000000
namespace K25
open PySem PySem.Spec PyProof.Rows L2 Mz
theorem catL_any {H : Hp} {a b : Addr} {xs ys : List V} {Q : VK} (h1 : H a = some (.lst xs)) (h2 : H b = some (.lst ys)) (l : xs.length + ys.length ≤ sizeLine) (q : ∀ H' p, Same H H' → H p = none → H' p = some (.lst (xs ++ ys)) → Q (.ref p) H') : rCat (.ref a) (.ref b) H Q :=
  ⟨a, b, xs, ys, rfl, rfl, h1, h2, l, fun p hp => q _ p (same_upd (Same.refl H) hp) hp upd_same⟩
def spWordsOf : Sp := fun vs H Q _ => ∃ L n : Nat, vs = [.int L, .int n] ∧ 1 ≤ L ∧ L ≤ 4 ∧ n ≤ 40 ∧ L ^ n ≤ 5000 ∧ ∀ (H' : Hp) (p : Addr) (ts : List Addr), Same H H' → H p = none → H' p = some (.lst (ts.map V.ref)) → TupL H' ts (allW L n) → Q (.ref p) H'
def spHeads : Sp := fun vs H Q _ => ∃ (m : Addr) (M : Mach), vs = [.ref m] ∧ MA H m M ∧ Full M ∧ ∀ (H' : Hp) (p : Addr) (ts : List Addr), Same H H' → H p = none → H' p = some (.lst (ts.map V.ref)) → TupL H' ts (headsW M) → Q (.ref p) H'
def spMost : Sp := fun vs H Q _ => ∃ (l n : Int) (e : Nat), vs = [.int l, .int n, .int (e : Int)] ∧ 1 ≤ l ∧ l ≤ 4 ∧ 1 ≤ n ∧ n ≤ 30 ∧ e ≤ 29 ∧ Q (.int (mostW l n e)) H
section
variable {P : Program} {w : World} {K : PySem.W.Frag} {mg : Str → Option Value} {base : Heap} {A : Ads}
theorem ok_wordsof (T : Txt K mg A) : FnOk P w K mg base CX0 1 A.a_words_of A.d_words_of ["letters", "length"] spWordsOf := by
  refine T.F_words_of.ok sc_words_of (fun vs H Q E h => ?_) (fun cdv Ar outer s H vs Q E hr h => ?_)
  · obtain ⟨_, _, rfl, _⟩ := h
    rfl
  · obtain ⟨L, n, rfl, l1, l4, n5, npow, fin⟩ := h
    refine ⟨_, (pss_cons (ps_set (i := 2) sc_words_of.nd rfl (Or.inl rfl) (pe_lst (pa_cons (pe_tup pa_nil) pa_nil)))
      (pss_cons (ps_for PassesOwn.never rfl (pi_range1 (by rfl) T.n_range (pa_cons (pv 1) pa_nil)) (pg_name (i := 3) sc_words_of.nd rfl (Or.inl rfl))
        (pss_one (ps_setLc2 (i := 2) (own := [("word", 4), ("letter", 5)]) (vs1 := [5]) (g := (gName 4)) (g1 := (gName 5)) (tt := tYes) (tt1 := tYes) rfl sc_words_of.nd rfl rfl (sw_true rfl rfl rfl (by decide +kernel)) (pi_list (pv 2)) (blkOk_by (N := ["letters", "length", "words", "_", "word", "letter"]) (sc := defScope s_words_of) (by decide +kernel)) (by decide) (fun _ _ _ _ _ => (pg_name (i := 4) sc_words_of.nd rfl (Or.inl rfl))) (fun _ _ _ _ _ => pts_nil) (fun _ _ _ _ _ => (pi_range1 (by rfl) T.n_range (pa_cons (pv 0) pa_nil))) (fun _ _ _ _ _ => (pg_name (i := 5) sc_words_of.nd rfl (Or.inl rfl))) (fun _ _ _ _ _ => pts_nil) (fun _ _ _ _ _ => (pe_op (r := rCatA K) op_catA (pv 4) (pe_tup (pa_cons (pv 5) pa_nil)))))))
      (pss_one (ps_ret (pv 2))))), ?_⟩
    refine ⟨(by show 0 ≤ sizeLine; decide), fun t0 ht0 => ⟨(by show 1 ≤ sizeLine; decide), fun p0 hp0 => ?_⟩⟩
    have s1 := same_upd (o := .tup []) (Same.refl H) ht0
    have fp0 : H p0 = none := s1.free hp0
    have s2 := same_upd (o := .lst [.ref t0]) s1 hp0
    have e0 : (upd (upd H t0 (.tup [])) p0 (.lst [.ref t0])) t0 = some (.tup []) := (same_upd (Same.refl _) hp0) _ _ upd_same
    have e1 : (upd (upd H t0 (.tup [])) p0 (.lst [.ref t0])) p0 = some (.lst ([t0].map V.ref)) := upd_same
    generalize upd (upd H t0 (.tup [])) p0 (.lst [.ref t0]) = H1 at s2 e0 e1
    refine ⟨_, rfl, n, rfl, by omega, by omega, for_range (n := n) (fun i σ H' => ∃ (p : Addr) (ts : List Addr) (v3 : Option V), σ = [some (.int (L : Int)), some (.int (n : Int)), some (.ref p), v3, none, none] ∧ Same H H' ∧ H p = none ∧ H' p = some (.lst (ts.map V.ref)) ∧ TupL H' ts (allW L i))
      ⟨p0, [t0], none, rfl, s2, fp0, e1, TupL.nil.snoc e0⟩ ?_ ?_⟩
    · rintro i σ H2 hi ⟨p, ts, v3, rfl, s3, fp, ep, tl⟩
      have big : (allW L i).length ≤ 5000 := by
        rw [allW_len]
        exact Nat.le_trans (Nat.pow_le_pow_right l1 (show i ≤ n by omega)) npow
      refine ⟨_, rfl, p, rfl, ⟨_, SqL.of ep⟩, fun D hD => ?_⟩
      refine it_any walk_list (fun j H' => ∃ us : List Addr, H' D = some (.lst (us.map V.ref)) ∧ TupL H' us (((allW L i).take j).flatMap (moreW L)) ∧ Same H2 H') ⟨[], upd_same, TupL.nil, same_upd (Same.refl _) hD⟩ (fun j H' _ ⟨_, _, _, z⟩ => SqL.of (z _ _ ep)) ?_ ?_
      · rintro j x H3 H3x hj ⟨us, e3, t3, s4⟩ ⟨rfl, hx⟩
        obtain ⟨t, ht, rfl⟩ := ofV hx
        have jl : j < (allW L i).length := by
          rw [← tl.1]
          exact (List.getElem?_eq_some_iff.mp ht).1
        have ew := List.getElem?_eq_getElem jl
        generalize (allW L i)[j] = w at ew
        have wl : w.length = i := (allW_mem.mp (List.mem_of_getElem? ew)).1
        have et := tl.2 j t w ht ew
        refine ⟨rfl, ?_⟩
        refine ⟨_, rfl, L, rfl, by omega, by omega, ?_⟩
        refine it_any (walk_range (lo := 0) (n := ((L : Int)).toNat)) (fun a H' => ∃ us : List Addr, H' D = some (.lst (us.map V.ref)) ∧ TupL H' us (((allW L i).take j).flatMap (moreW L) ++ (List.range a).map fun a : Nat => w ++ [(a : Int)]) ∧ Same H2 H') ⟨us, e3, by rw [List.range_zero, List.map_nil, List.append_nil]; exact t3, s4⟩ (fun _ _ _ _ => trivial) ?_ ?_
        · clear e3 t3 s4 us
          rintro a x H4x H4 ha ⟨us, e4, t4, s4⟩ ⟨rfl, rfl⟩
          have ea : (0 : Int) + (a : Int) = (a : Int) := by omega
          dsimp only
          rw [ea]
          refine ⟨rfl, ?_⟩
          refine ⟨_, rfl, _, rfl, (by show 1 ≤ sizeLine; decide), fun q hq => ?_⟩
          have s5 := same_upd (o := .tup [.int (a : Int)]) (Same.refl H4) hq
          have eq : (upd H4 q (.tup [.int (a : Int)])) q = some (.tup [.int (a : Int)]) := upd_same
          generalize upd H4 q _ = H5 at *
          refine catA_any (s5 _ _ (s4 _ _ et)) eq (by rw [List.length_map, wl]; exact Nat.le_trans (show i + 1 ≤ 60 by omega) (by decide)) fun H6 r s6 er => ?_
          have e6 := s6 _ _ (s5 _ _ e4)
          have t6 := (t4.same s5).same s6
          have lu := t6.1
          rw [List.length_append, flat_len, List.length_take, List.length_map, List.length_range] at lu
          have few : us.length ≤ 30000 := by
            have : min j (allW L i).length * L ≤ 5000 * 4 := Nat.mul_le_mul (by omega) l4
            omega
          refine ⟨_, e6, ?_, us ++ [r], by rw [upd_same, List.map_append]; rfl, ?_, same_set ((s4.trans s5).trans s6) hD⟩
          · rw [List.length_map]
            exact Nat.lt_of_le_of_lt few (by decide)
          · rw [List.range_succ, List.map_append, ← List.append_assoc]
            refine t6.push e6 ?_
            show H6 r = some (HO.tup ((w ++ [(a : Int)]).map V.int))
            rw [er, List.map_append]
            rfl
        · rintro H4 ⟨us, e4, t4, s4⟩
          refine ⟨us, e4, ?_, s4⟩
          rw [take_more ew, List.flatMap_append, List.flatMap_cons, List.flatMap_nil, List.append_nil]
          exact t4
      · rintro H4 ⟨us, e4, t4, s4⟩
        rw [List.length_map, tl.1, List.take_length] at t4
        exact ⟨D, us, _, rfl, s3.trans s4, s3.free hD, e4, t4⟩
    · rintro σ H2 ⟨p, ts, v3, rfl, s3, fp, ep, tl⟩
      exact ⟨_, rfl, fin H2 p ts s3 fp ep tl⟩
theorem ok_heads (T : Txt K mg A) : FnOk P w K mg base CX0 2 A.a_heads A.d_heads ["small"] spHeads := by
  have G_ways_to : FnOk P w K mg base CX0 1 A.a_ways_to A.d_ways_to ["machine"] (spWays K) := ok_ways T
  refine T.F_heads.ok sc_heads (fun vs H Q E h => ?_) (fun cdv Ar outer s H vs Q E hr h => ?_)
  · obtain ⟨_, _, rfl, _⟩ := h
    rfl
  · obtain ⟨m, M, rfl, hM, F, fin⟩ := h
    have hr_ways_to : Room 1 _ := hr
    refine ⟨_, (pss_cons (ps_setLc2 (i := 1) (own := [("way", 2), ("letter", 3)]) (vs1 := [3]) (g := (gName 2)) (g1 := (gName 3)) (tt := tYes) (tt1 := tYes) rfl sc_heads.nd rfl rfl (sw_true rfl rfl rfl (by decide +kernel)) (pi_list (pe_call G_ways_to hr_ways_to (by rfl) T.g_ways_to T.F_ways_to.kp T.b_ways_to .nil pass0 (pa_cons (pv 0) pa_nil))) (blkOk_by (N := ["small", "longer", "way", "letter"]) (sc := defScope s_heads) (by decide +kernel)) (by decide) (fun _ _ _ _ _ => (pg_name (i := 2) sc_heads.nd rfl (Or.inl rfl))) (fun _ _ _ _ _ => pts_nil) (fun _ _ _ _ _ => (pi_range1 (by rfl) T.n_range (pa_cons (pe_ix (r := rIx K) ix_seq (pv 0) pe_int (fun _ _ => rfl)) pa_nil))) (fun _ _ _ _ _ => (pg_name (i := 3) sc_heads.nd rfl (Or.inl rfl))) (fun _ _ _ _ _ => pts_nil) (fun _ _ _ _ _ => (pe_op (r := rCatA K) op_catA (pe_callTy (r := rTof K) (T := "tuple") call_tof (by rfl) T.n_tuple (by decide +kernel) (pa_cons (pv 2) pa_nil)) (pe_tup (pa_cons (pv 3) pa_nil)))))
      (pss_one (ps_ret (pe_op op_cat (pe_lst (pa_cons (pe_tup pa_nil) pa_nil)) (pv 1))))), ?_⟩
    have g := F.good
    have l1 := g.l1
    have l4 := g.l4
    have s30 := g.s30
    obtain ⟨L, eL⟩ : ∃ L : Nat, M.ls = (L : Int) := ⟨M.ls.toNat, by omega⟩
    have eN : M.ls.toNat = L := by omega
    refine ⟨_, rfl, m, M, rfl, hM, g, fun H1 p us s1 W => ⟨p, rfl, ⟨_, SqL.of W.at_⟩, fun D hD => ?_⟩⟩
    have lus := W.len
    refine it_any walk_list (fun j H' => ∃ ts : List Addr, H' D = some (.lst (ts.map V.ref)) ∧ TupL H' ts ((List.range j).flatMap fun s : Nat => moreW L (wy M s)) ∧ Same H1 H') ⟨[], upd_same, TupL.nil, same_upd (Same.refl _) hD⟩ (fun j H' _ ⟨_, _, _, z⟩ => SqL.of (z _ _ W.at_)) ?_ ?_
    · rintro j x H2 H2x hj ⟨ts, e2, t2, s2⟩ ⟨rfl, hx⟩
      rw [lus] at hj
      obtain ⟨v, hv, wv⟩ := W.val j hj
      rw [hx] at hv
      cases hv
      obtain ⟨w0, ew, wt⟩ := way_some F (s := (j : Int)) ⟨by omega, by omega⟩
      have ewy : wy M j = w0 := by unfold wy; rw [ew]; rfl
      rcases wv with ⟨z, _⟩ | ⟨w1, r, e1, rfl, fr, er⟩
      · rw [ew] at z
        cases z
      rw [ew] at e1
      cases e1
      have er2 := s2 _ _ er
      have wl := wt.len
      have hM2 := (hM.same s1).same s2
      refine ⟨rfl, ?_⟩
      obtain ⟨mv, ou, rs, hMt⟩ := id hM2
      refine ⟨_, rfl, .inr (.inl ⟨m, _, 0, _, rfl, rfl, SqT.of hMt.top, rfl, ?_⟩)⟩
      rw [eL]
      refine ⟨L, rfl, by omega, by omega, ?_⟩
      refine it_any (walk_range (lo := 0) (n := ((L : Int)).toNat)) (fun a H' => ∃ us : List Addr, H' D = some (.lst (us.map V.ref)) ∧ TupL H' us (((List.range j).flatMap fun s : Nat => moreW L (wy M s)) ++ (List.range a).map fun a : Nat => w0 ++ [(a : Int)]) ∧ Same H1 H') ⟨ts, e2, by rw [List.range_zero, List.map_nil, List.append_nil]; exact t2, s2⟩ (fun _ _ _ _ => trivial) ?_ ?_
      · clear e2 t2 s2 ts er2 hM2 hMt
        rintro a x H4x H4 ha ⟨us, e4, t4, s4⟩ ⟨rfl, rfl⟩
        have ea : (0 : Int) + (a : Int) = (a : Int) := by omega
        dsimp only
        rw [ea]
        have er4 := s4 _ _ er
        refine ⟨rfl, ?_⟩
        refine ⟨_, rfl, r, _, rfl, .inl ⟨SqL.of er4, fun b hb => ?_⟩⟩
        have s5 := same_upd (o := .tup (w0.map V.int)) (Same.refl H4) hb
        have eb : (upd H4 b (.tup (w0.map V.int))) b = some (.tup (w0.map V.int)) := upd_same
        generalize upd H4 b (.tup (w0.map V.int)) = H5 at *
        refine ⟨_, rfl, (by show 1 ≤ sizeLine; decide), fun q hq => ?_⟩
        have s6 := same_upd (o := .tup [.int (a : Int)]) (Same.refl H5) hq
        have eq : (upd H5 q (.tup [.int (a : Int)])) q = some (.tup [.int (a : Int)]) := upd_same
        generalize upd H5 q (.tup [.int (a : Int)]) = H6 at *
        refine catA_any (s6 _ _ eb) eq (by rw [List.length_map]; exact Nat.le_trans (show w0.length + 1 ≤ 60 by omega) (by decide)) fun H7 r7 s7 e7 => ?_
        have s47 := (s5.trans s6).trans s7
        have e8 := s47 _ _ e4
        have t7 := t4.same s47
        have lu := t7.1
        have lf : ∀ l : List Nat, (l.flatMap fun s : Nat => moreW L (wy M s)).length = l.length * L := by
          intro l
          induction l with
          | nil => simp
          | cons x l ih => rw [List.flatMap_cons, List.length_append, moreW_len, ih, List.length_cons, Nat.succ_mul]; omega
        rw [List.length_append, lf, List.length_range, List.length_map, List.length_range] at lu
        have few : us.length ≤ 500 := by
          have : j * L ≤ 30 * 4 := Nat.mul_le_mul (by omega) (by omega)
          omega
        refine ⟨_, e8, ?_, us ++ [r7], by rw [upd_same, List.map_append]; rfl, ?_, same_set (s4.trans s47) hD⟩
        · rw [List.length_map]
          exact Nat.lt_of_le_of_lt few (by decide)
        · rw [List.range_succ, List.map_append, ← List.append_assoc]
          refine t7.push e8 ?_
          show H7 r7 = some (HO.tup ((w0 ++ [(a : Int)]).map V.int))
          rw [e7, List.map_append]
          rfl
      · rintro H4 ⟨us, e4, t4, s4⟩
        refine ⟨us, e4, ?_, s4⟩
        rw [List.range_succ, List.flatMap_append, List.flatMap_cons, List.flatMap_nil, List.append_nil, ewy]
        exact t4
    · rintro H2 ⟨ts, e2, t2, s2⟩
      rw [lus] at t2
      refine ⟨(by show 0 ≤ sizeLine; decide), fun t0 h0 => ⟨(by show 1 ≤ sizeLine; decide), fun l0 hl0 => ?_⟩⟩
      have s3 := same_upd (o := .tup []) (Same.refl H2) h0
      have s4 := same_upd (o := .lst [.ref t0]) s3 hl0
      have e0 : (upd (upd H2 t0 (.tup [])) l0 (.lst [.ref t0])) t0 = some (.tup []) := (same_upd (Same.refl _) hl0) _ _ upd_same
      have el : (upd (upd H2 t0 (.tup [])) l0 (.lst [.ref t0])) l0 = some (.lst ([t0].map V.ref)) := upd_same
      generalize upd (upd H2 t0 (.tup [])) l0 (.lst [.ref t0]) = H4 at *
      have lt := t2.1
      have lf : ∀ l : List Nat, (l.flatMap fun s : Nat => moreW L (wy M s)).length = l.length * L := by
        intro l
        induction l with
        | nil => simp
        | cons x l ih => rw [List.flatMap_cons, List.length_append, moreW_len, ih, List.length_cons, Nat.succ_mul]; omega
      rw [lf, List.length_range] at lt
      have few : ts.length ≤ 120 := by
        have : M.rows.length * L ≤ 30 * 4 := Nat.mul_le_mul (by omega) (by omega)
        omega
      refine ⟨_, rfl, ?_⟩
      refine catL_any el (s4 _ _ e2) (by rw [List.length_map, List.length_map]; exact Nat.le_trans (show [t0].length + ts.length ≤ 200 by show 1 + ts.length ≤ 200; omega) (by decide)) fun H5 p5 s5 f5 e5 => ?_
      rw [← List.map_append] at e5
      have s15 := (s2.trans s4).trans s5
      refine fin H5 p5 _ (s1.trans s15) ((s1.trans (s2.trans s4)).free f5) e5 ?_
      have tA : TupL H5 [t0] [[]] := TupL.nil.snoc (s5 _ _ e0)
      have tB := (t2.same s4).same s5
      unfold headsW
      rw [eN]
      refine ⟨by have := tB.1; simp only [List.length_append, List.length_cons, List.length_nil]; omega, fun i a u h1 h2 => ?_⟩
      cases i with
      | zero =>
        cases h1
        cases h2
        exact s5 _ _ e0
      | succ i => exact tB.2 i a u (by simpa using h1) (by simpa using h2)
theorem ok_most (T : Txt K mg A) : FnOk P w K mg base CX0 1 A.a_most_words A.d_most_words ["letters", "states", "extra"] spMost := by
  refine T.F_most_words.ok sc_most_words (fun vs H Q E h => ?_) (fun cdv Ar outer s H vs Q E hr h => ?_)
  · obtain ⟨_, _, _, rfl, _⟩ := h
    rfl
  · obtain ⟨l, n, e, rfl, l1, l4, n1, n30, e29, fin⟩ := h
    refine ⟨_, (pss_cons (ps_set (i := 3) sc_most_words.nd rfl (Or.inl rfl) pe_int)
      (pss_cons (ps_set (i := 4) sc_most_words.nd rfl (Or.inl rfl) pe_int)
      (pss_cons (ps_for PassesOwn.never rfl (pi_range1 (by rfl) T.n_range (pa_cons (pe_op op_add (pv 2) pe_int) pa_nil)) (pg_name (i := 5) sc_most_words.nd rfl (Or.inl rfl))
        (pss_cons (ps_aug (i := 3) sc_most_words.nd rfl (Or.inl rfl) (pv 4) ip_add)
          (pss_one (ps_aug (i := 4) sc_most_words.nd rfl (Or.inl rfl) (pv 0) ip_mul))))
      (pss_one (ps_ret (pe_op op_mul (pe_op op_mul (pe_op op_add (pe_op op_mul (pv 1) (pv 0)) pe_int) (pv 3)) (pe_callB (call_max2 rfl) (by rfl) T.n_max (by decide +kernel) (pa_cons pe_int (pa_cons (pe_op op_sub (pv 1) pe_int) pa_nil))))))))), ?_⟩
    refine ⟨_, rfl, _, _, rfl, rfl, ?_⟩
    refine ⟨((e + 1 : Nat) : Int), congrArg (fun z => [V.int z]) (by omega), by omega, by omega, for_range (n := e + 1) (fun i σ H' => ∃ v5 : Option V, σ = [some (.int l), some (.int n), some (.int (e : Int)), some (.int (spw l i)), some (.int (l ^ i)), v5] ∧ H' = H)
      ⟨_, by rw [Int.pow_zero]; rfl, rfl⟩ ?_ ?_⟩
    · rintro i σ H1 hi ⟨v5, rfl, rfl⟩
      have b1 := spw_hi l1 l4 i
      have b2 := pow_le4 l1 l4 i
      have b3 := pow4_mono (show i ≤ 29 by omega)
      have b4 := pow_pos1 l1 i
      have b5 := spw_lo l1 i
      refine ⟨_, rfl, _, rfl, _, _, rfl, rfl, _, rfl, _, rfl, _, _, rfl, rfl, .inr ⟨by omega, by omega⟩, ?_⟩
      exact ⟨_, by rw [Int.pow_succ]; rfl, rfl⟩
    · rintro σ H1 ⟨v5, rfl, rfl⟩
      have nl : 1 ≤ n * l ∧ n * l ≤ 120 := by
        have h1 := Int.mul_le_mul n1 l1 (by decide) (by omega)
        have h2 := Int.mul_le_mul n30 l4 (by omega) (by decide)
        omega
      refine ⟨_, rfl, _, rfl, _, _, rfl, rfl, .inl ⟨by omega, by omega⟩, _, _, rfl, rfl, _, rfl, _, _, rfl, rfl, .inl ⟨by omega, by omega⟩, _, rfl, _, _, rfl, rfl, _, _, rfl, _, _, rfl, rfl, .inr ?_, ?_⟩
      · split <;> omega
      · exact fin
end
end K25

set_option Elab.async false
set_option linter.all false
set_option maxRecDepth 100000
set_option maxHeartbeats 4000000
namespace K25
open PySem PySem.Spec PyProof.Rows L2 Mz
/-- what a suite is -/
structure Suite (L : Mach) (e : Nat) (ws : List (List Int)) : Prop where
  asc : Asc ws
  mem : ∃ W, Telling L W ∧ ∀ w, w ∈ ws ↔ InSuite L e W w
  few : (ws.length : Int) ≤ mostW L.ls L.rows.length e
def spSuite (A : Ads) : Sp := fun vs H Q E => ∃ (f : Addr) (M : Mach) (x : Int), vs = [.ref f, .int x] ∧ MA H f M ∧ Good M ∧ ∀ G, Rep (EqM M) M.rows.length G →
  (∀ H', Same H H' → (¬ (0 ≤ x ∧ x ≤ 29) ∨ 4000 < mostW (leastBy M G (ordAt M G M.rows.length)).ls (leastBy M G (ordAt M G M.rows.length)).rows.length x.toNat) → E (.ref A.a_NotAllowed) none H') ∧
  (∀ (H' : Hp) (p : Addr) (ts : List Addr) (ws : List (List Int)), Same H H' → 0 ≤ x → x ≤ 29 → mostW (leastBy M G (ordAt M G M.rows.length)).ls (leastBy M G (ordAt M G M.rows.length)).rows.length x.toNat ≤ 4000 →
    H' p = some (.lst (ts.map V.ref)) → LL H' ts ws → Suite (leastBy M G (ordAt M G M.rows.length)) x.toNat ws → Q (.ref p) H')
theorem flat_le {α β : Type} {f : α → List β} {c : Nat} : ∀ {l : List α}, (∀ x ∈ l, (f x).length ≤ c) → (l.flatMap f).length ≤ l.length * c
  | [], _ => by simp
  | x :: l, h => by
    rw [List.flatMap_cons, List.length_append, List.length_cons, Nat.succ_mul]
    have := flat_le (f := f) (l := l) (c := c) fun y hy => h y (List.mem_cons_of_mem _ hy)
    have := h x List.mem_cons_self
    omega
def tri (W : List (List Int)) (h m : List Int) : List (List Int) := W.map fun t => h ++ m ++ t
def duo (Ms W : List (List Int)) (h : List Int) : List (List Int) := Ms.flatMap (tri W h)
theorem tri_len {W : List (List Int)} {h m : List Int} : (tri W h m).length = W.length := List.length_map ..
theorem duo_len {Ms W : List (List Int)} {h : List Int} : (duo Ms W h).length ≤ Ms.length * W.length := flat_le fun m _ => by rw [tri_len]; exact Nat.le_refl _
theorem all_mem {L : Mach} {e : Nat} {W : List (List Int)} {w : List Int} : w ∈ (headsW L).flatMap (duo (midsW L.ls.toNat e) W) ↔ InSuite L e W w := by
  unfold InSuite
  rw [List.mem_flatMap]
  constructor
  · rintro ⟨h, hh, q⟩
    obtain ⟨m, hm, q⟩ := List.mem_flatMap.mp q
    obtain ⟨t, ht, rfl⟩ := List.mem_map.mp q
    exact ⟨h, hh, m, hm, t, ht, rfl⟩
  · rintro ⟨h, hh, m, hm, t, ht, rfl⟩
    exact ⟨h, hh, List.mem_flatMap.mpr ⟨m, hm, List.mem_map.mpr ⟨t, ht, rfl⟩⟩⟩
section
variable {P : Program} {w : World} {K : PySem.W.Frag} {mg : Str → Option Value} {base : Heap} {A : Ads}
theorem ok_suite (T : Txt K mg A) : FnOk P w K mg base (L2N.CX P w) 5 A.a_suite_words A.d_suite_words ["machine", "extra"] (spSuite A) := by
  have G_least : FnOk P w K mg base CX0 3 A.a_least A.d_least ["machine"] spLeast := ok_least T
  have G_most_words : FnOk P w K mg base CX0 1 A.a_most_words A.d_most_words ["letters", "states", "extra"] spMost := ok_most T
  have G_words_of : FnOk P w K mg base CX0 1 A.a_words_of A.d_words_of ["letters", "length"] spWordsOf := ok_wordsof T
  have G_telling_words : FnOk P w K mg base CX0 4 A.a_telling_words A.d_telling_words ["machine"] spTelling := ok_telling T
  have G_heads : FnOk P w K mg base CX0 2 A.a_heads A.d_heads ["small"] spHeads := ok_heads T
  have G_word_order : FnOk P w K mg base CX0 1 A.a_word_order A.d_word_order ["word"] (spOrder K) := ok_order T
  refine okN T.F_suite_words sc_suite_words (fun vs H Q E h => ?_) (fun cdv Ar outer s H vs Q E hr h => ?_)
  · obtain ⟨_, _, _, rfl, _⟩ := h
    rfl
  · obtain ⟨f, M, x, rfl, hM, g, fin⟩ := h
    have hr_least : Room 3 _ := hr.mono (by decide)
    have hr_most_words : Room 1 _ := hr.mono (by decide)
    have hr_words_of : Room 1 _ := hr.mono (by decide)
    have hr_telling_words : Room 4 _ := hr
    have hr_heads : Room 2 _ := hr.mono (by decide)
    have hr_word_order : Room 3 _ := hr.mono (by decide)
    refine ⟨_, (pss_cons (ps_set (i := 2) sc_suite_words.nd rfl (Or.inr rfl) (pe_call G_least hr_least (by rfl) T.g_least T.F_least.kp T.b_least .nil pass0 (pa_cons (pv 0) pa_nil)))
      (pss_cons (ps_if (pt_not (pt_chain op_le op_le pe_int (pv 1) (C8.pe_gc (v := .int 29) (by rfl) T.c_MAX_EXTRA))) (pss_one (L2N.ps_raise rfl (L2N.takes_of rfl rfl rfl rfl) (pmk_any PySem.F.excBase_ValueError T.x_NotAllowed T.g_NotAllowed T.k_NotAllowed (raises_own T.sb_NotAllowed T.ty_NotAllowed) (by rfl) (pa_cons (pe_joined (.cons pe_str (.cons (pe_fmt (C8.pe_gc (v := .int 29) (by rfl) T.c_MAX_EXTRA)) (.cons pe_str .nil)))) pa_nil)))) pss_nil)
      (pss_cons (ps_if (pt_cmpR op_gt (pe_call G_most_words hr_most_words (by rfl) T.g_most_words T.F_most_words.kp T.b_most_words .nil pass0 (pa_cons (pe_ix (r := rIx K) ix_seq (pv 2) pe_int (fun _ _ => rfl)) (pa_cons (pe_callB call_len_seq (by rfl) T.n_len PySem.boot_len (pa_cons (pe_ix (r := rIx K) ix_seq (pv 2) pe_int (fun _ _ => rfl)) pa_nil)) (pa_cons (pv 1) pa_nil)))) (C8.pe_gc (v := .int 4000) (by rfl) T.c_MAX_LIST) (nomark _)) (pss_one (L2N.ps_raise rfl (L2N.takes_of rfl rfl rfl rfl) (pmk_any PySem.F.excBase_ValueError T.x_NotAllowed T.g_NotAllowed T.k_NotAllowed (raises_own T.sb_NotAllowed T.ty_NotAllowed) (by rfl) (pa_cons (pe_joined (.cons pe_str (.cons (pe_fmt (C8.pe_gc (v := .int 4000) (by rfl) T.c_MAX_LIST)) (.cons pe_str .nil)))) pa_nil)))) pss_nil)
      (pss_cons (ps_setLc2 (i := 4) (own := [("length", 9), ("middle", 3)]) (vs1 := [3]) (g := (gName 9)) (g1 := (gName 3)) (tt := tYes) (tt1 := tYes) (wi1 := iList K (tCall spWordsOf [] C8.E0 (tCons (tOp (rIx K) (tVar 2) (tC (V.int 0))) (tCons (tVar 9) tNil)))) rfl sc_suite_words.nd rfl rfl (sw_true rfl rfl rfl (by decide +kernel)) (pi_range1 (by rfl) T.n_range (pa_cons (pe_op op_add (pv 1) pe_int) pa_nil)) (blkOk_by (N := ["machine", "extra", "small", "middle", "middles", "tails", "found", "head", "tail", "length", "word"]) (sc := defScope s_suite_words) (by decide +kernel)) (by decide) (fun _ _ _ _ _ => (pg_name (i := 9) sc_suite_words.nd rfl (Or.inl rfl))) (fun _ _ _ _ _ => pts_nil) (fun _ _ _ _ _ => (pi_list (pe_call G_words_of hr_words_of (by rfl) T.g_words_of T.F_words_of.kp T.b_words_of .nil pass0 (pa_cons (pe_ix (r := rIx K) ix_seq (pv 2) pe_int (fun _ _ => rfl)) (pa_cons (pv 9) pa_nil))))) (fun _ _ _ _ _ => (pg_name (i := 3) sc_suite_words.nd rfl (Or.inl rfl))) (fun _ _ _ _ _ => pts_nil) (fun _ _ _ _ _ => (pv 3)))
      (pss_cons (ps_setLc (i := 5) (own := [("word", 10)]) (g := (gName 10)) (tt := tYes) rfl sc_suite_words.nd rfl rfl (sw_true rfl rfl rfl (by decide +kernel)) (pi_list (pe_call G_telling_words hr_telling_words (by rfl) T.g_telling_words T.F_telling_words.kp T.b_telling_words .nil pass0 (pa_cons (pv 2) pa_nil))) (blkOk_by (N := ["machine", "extra", "small", "middle", "middles", "tails", "found", "head", "tail", "length", "word"]) (sc := defScope s_suite_words) (by decide +kernel)) (fun _ _ _ _ _ => (pg_name (i := 10) sc_suite_words.nd rfl (Or.inl rfl))) (fun _ _ _ _ _ => pts_nil) (fun _ _ _ _ _ => (pe_callTy (r := rTof K) (T := "tuple") call_tof (by rfl) T.n_tuple (by decide +kernel) (pa_cons (pv 10) pa_nil))))
      (pss_cons (ps_set (i := 6) sc_suite_words.nd rfl (Or.inl rfl) pe_dnewT)
      (pss_cons (ps_for (passes_of rfl) rfl (pi_list (pe_call G_heads hr_heads (by rfl) T.g_heads T.F_heads.kp T.b_heads .nil pass0 (pa_cons (pv 2) pa_nil))) (pg_name (i := 7) sc_suite_words.nd rfl (Or.inl rfl))
        (pss_one (ps_for (passes_of rfl) rfl (pi_list (pv 4)) (pg_name (i := 3) sc_suite_words.nd rfl (Or.inl rfl))
            (pss_one (ps_for (passes_of rfl) rfl (pi_list (pv 5)) (pg_name (i := 8) sc_suite_words.nd rfl (Or.inl rfl))
                (pss_one (ps_dput (hu_of hr) (pv 6) (pe_op (r := rCatA K) op_catA (pe_op (r := rCatA K) op_catA (pv 7) (pv 3)) (pv 8)) pe_bl rfl)))))))
      (pss_one (ps_ret (pe_lc (own := [("word", 10)]) (g := (gName 10)) (tt := tYes) rfl sc_suite_words.nd (pi_list (pe_callBK (cr_sortKD rfl G_word_order hr_word_order T.b_word_order) (by rfl) T.n_sorted (by decide +kernel) (pa_cons (pv 6) pa_nil) (pk_cons (C8.pe_gc (v := .ref A.a_word_order) (by rfl) ⟨_, T.g_word_order, rfl⟩) pk_nil))) (blkOk_by (N := ["machine", "extra", "small", "middle", "middles", "tails", "found", "head", "tail", "length", "word"]) (sc := defScope s_suite_words) (by decide +kernel)) (fun _ _ _ _ _ => (pg_name (i := 10) sc_suite_words.nd rfl (Or.inl rfl))) (fun _ _ _ _ _ => pts_nil) (fun _ _ _ _ _ => (pe_callTy (r := rLof K) (T := "list") call_lof (by rfl) T.n_list (by decide +kernel) (pa_cons (pv 10) pa_nil))))))))))))), ?_⟩
    refine ⟨_, rfl, f, M, rfl, hM, g, fun H1 sm G s1 fs r hL => ?_⟩
    obtain ⟨no, yes⟩ := fin G r
    have F := least_isfull g r
    have self : ∀ {G'}, Rep (EqM (leastBy M G (ordAt M G M.rows.length))) (leastBy M G (ordAt M G M.rows.length)).rows.length G' → leastBy (leastBy M G (ordAt M G M.rows.length)) G' (ordAt (leastBy M G (ordAt M G M.rows.length)) G' (leastBy M G (ordAt M G M.rows.length)).rows.length) = leastBy M G (ordAt M G M.rows.length) := fun r' => least_self g r rfl r'
    generalize leastBy M G (ordAt M G M.rows.length) = L at *
    have gL := F.good
    have l1 := gL.l1
    have l4 := gL.l4
    have n30 := gL.s30
    have n1 := gL.s1
    have bad : ∀ {H'}, Same H H' → (¬ (0 ≤ x ∧ x ≤ 29)) → E (.ref A.a_NotAllowed) none H' := fun s c => no _ s (.inl c)
    by_cases q0 : 0 ≤ x
    rotate_left
    · refine ⟨_, rfl, _, _, rfl, rfl, _, rfl, ifDF (decide_eq_false q0) ⟨_, rfl, ifDT rfl ?_⟩⟩
      exact js_3 (i1 := 29) (fun q => q) (by decide) (by decide) (by decide) fun out => ⟨by show 1 ≤ sizeLine; decide, bad s1 fun z => q0 z.1⟩
    refine ⟨_, rfl, _, _, rfl, rfl, _, rfl, ifDT (decide_eq_true q0) ?_⟩
    by_cases q1 : x ≤ 29
    rotate_left
    · refine ⟨_, _, rfl, rfl, _, rfl, ifDT (by rw [decide_eq_false q1]; rfl) ?_⟩
      exact js_3 (i1 := 29) (fun q => q) (by decide) (by decide) (by decide) fun out => ⟨by show 1 ≤ sizeLine; decide, bad s1 fun z => q1 z.2⟩
    refine ⟨_, _, rfl, rfl, _, rfl, ifDF (by rw [decide_eq_true q1]; rfl) ?_⟩
    obtain ⟨e, rfl⟩ := Int.eq_ofNat_of_zero_le q0
    have e29 : e ≤ 29 := by omega
    rw [Int.toNat_natCast] at no yes
    obtain ⟨mv, ou, rs, hLt⟩ := id hL
    refine ⟨_, rfl, .inr (.inl ⟨sm, _, 0, _, rfl, rfl, SqT.of hLt.top, rfl, ?_⟩)⟩
    refine ⟨_, rfl, .inr (.inl ⟨sm, _, 2, .ref mv, rfl, rfl, SqT.of hLt.top, rfl, mv, _, rfl, .inr (SqT.of hLt.mv), ?_⟩)⟩
    rw [List.length_map, hLt.len]
    refine ⟨_, rfl, L.ls, (L.rows.length : Int), e, rfl, l1, l4, by omega, by omega, e29, ?_⟩
    by_cases q2 : mostW L.ls L.rows.length e ≤ 4000
    rotate_left
    · refine ⟨_, _, rfl, rfl, _, rfl, ifDT (decide_eq_true (by omega)) ?_⟩
      exact js_3 (i1 := 4000) (fun q => q) (by decide) (by decide) (by decide) fun out => ⟨by show 1 ≤ sizeLine; decide, no _ s1 (.inr (by omega))⟩
    refine ⟨_, _, rfl, rfl, _, rfl, ifDF (decide_eq_false (by omega)) ?_⟩
    obtain ⟨z1, z2, z3⟩ := most_parts l1 (show (1 : Int) ≤ (L.rows.length : Int) by omega) q2
    obtain ⟨N, eN⟩ : ∃ N : Nat, L.ls = (N : Int) := ⟨L.ls.toNat, by omega⟩
    have eT : L.ls.toNat = N := by omega
    have lM : (midsW N e).length ≤ 4000 := by
      have := mids_len (L := N) (e := e)
      rw [← eN] at this
      omega
    refine ⟨_, rfl, _, _, rfl, rfl, ((e + 1 : Nat) : Int), congrArg (fun z => [V.int z]) (by omega), by omega, by omega, fun D1 hD1 => ?_⟩
    refine it_any (walk_range (lo := 0) (n := ((((e + 1 : Nat)) : Int)).toNat)) (fun j H' => ∃ ts : List Addr, H' D1 = some (.lst (ts.map V.ref)) ∧ TupL H' ts ((List.range j).flatMap (allW N)) ∧ Same H1 H') ⟨[], upd_same, TupL.nil, same_upd (Same.refl _) hD1⟩ (fun _ _ _ _ => trivial) ?_ ?_
    · rintro j y H2 H2x hj ⟨ts, e2, t2, s2⟩ ⟨rfl, rfl⟩
      have ej : (0 : Int) + (j : Int) = (j : Int) := by omega
      dsimp only
      rw [ej]
      refine ⟨rfl, ?_⟩
      refine ⟨_, rfl, .inr (.inl ⟨sm, _, 0, _, rfl, rfl, SqT.of (s2 _ _ hLt.top), rfl, ?_⟩)⟩
      rw [eN]
      have je : j ≤ e := by omega
      have pw : N ^ j ≤ 5000 := by
        have h1 := spw_pow l1 (k := e + 1) (j := j) (by omega)
        rw [eN] at h1
        have h2 : (N : Int) ^ j ≤ 4000 := by
          rw [eN] at z2
          omega
        have h3 : ((N ^ j : Nat) : Int) = (N : Int) ^ j := by push_cast; rfl
        omega
      refine ⟨_, rfl, N, j, rfl, by omega, by omega, by omega, pw, fun H3 p3 ts3 s3 f3 e3 t3 => ?_⟩
      refine ⟨p3, rfl, ⟨_, SqL.of e3⟩, ?_⟩
      refine it_any walk_list (fun a H' => ∃ us : List Addr, H' D1 = some (.lst (us.map V.ref)) ∧ TupL H' us (((List.range j).flatMap (allW N)) ++ (allW N j).take a) ∧ Same H1 H' ∧ H' p3 = some (.lst (ts3.map V.ref)) ∧ TupL H' ts3 (allW N j)) ⟨ts, s3 _ _ e2, by rw [List.take_zero, List.append_nil]; exact t2.same s3, s2.trans s3, e3, t3⟩ (fun j H' _ ⟨_, _, _, _, z, _⟩ => SqL.of z) ?_ ?_
      · rintro a y H4x H4 ha ⟨us, e4, t4, s4, p4, q4⟩ ⟨rfl, hy⟩
        obtain ⟨t, ht, rfl⟩ := ofV hy
        have al : a < (allW N j).length := by
          rw [← t3.1]
          exact (List.getElem?_eq_some_iff.mp ht).1
        have ew := List.getElem?_eq_getElem al
        have et := q4.2 a t _ ht ew
        have pD : p3 ≠ D1 := fun z => by rw [z, e2] at f3; cases f3
        have tD : ∀ {b : Addr} {u : List Int}, IT H4 b u → b ≠ D1 := fun h z => by
          have h : H4 _ = _ := h
          rw [z, e4] at h
          cases h
        refine ⟨rfl, ?_⟩
        have lu := t4.1
        have f2 : us.length ≤ 8000 := by
          have h1 : ((List.range j).flatMap (allW N)).length ≤ 4000 := by
            have h2 := mids_len (L := N) (e := j)
            have h3 := spw_lo (l := (N : Int)) (by omega) 0
            have h4 : ((List.range j).flatMap (allW N)).length ≤ (midsW N j).length := by
              unfold midsW
              rw [List.range_succ, List.flatMap_append, List.length_append]
              omega
            have h5 : (midsW N j).length ≤ (midsW N e).length := by
              unfold midsW
              have : List.range (e + 1) = List.range (j + 1) ++ (List.range (e - j)).map (fun i => j + 1 + i) := by
                rw [show e + 1 = (j + 1) + (e - j) by omega, List.range_add]
              rw [this, List.flatMap_append, List.length_append]
              omega
            omega
          have h2 : (allW N j).length ≤ 5000 := by rw [allW_len]; exact pw
          rw [List.length_append, List.length_take] at lu
          have : (allW N j).length ≤ 4000 := by
            have h1 := spw_pow l1 (k := e + 1) (j := j) (by omega)
            rw [eN] at h1
            rw [eN] at z2
            have h3 : ((N ^ j : Nat) : Int) = (N : Int) ^ j := by push_cast; rfl
            rw [allW_len]
            omega
          omega
        refine ⟨_, rfl, _, e4, ?_, us ++ [t], by rw [upd_same, List.map_append]; rfl, ?_, same_set s4 hD1, by rw [upd_ne pD]; exact p4, ?_⟩
        · rw [List.length_map]
          exact Nat.lt_of_le_of_lt f2 (by decide)
        · rw [take_more ew, ← List.append_assoc]
          exact t4.push e4 et
        · exact ⟨q4.1, fun i b u h1 h2 => by
            have hb := q4.2 i b u h1 h2
            show upd H4 D1 _ b = _
            rw [upd_ne (tD hb)]
            exact hb⟩
      · rintro H4 ⟨us, e4, t4, s4, _, _⟩
        refine ⟨us, e4, ?_, s4⟩
        rw [List.length_map, t3.1, List.take_length] at t4
        rw [List.range_succ, List.flatMap_append, List.flatMap_cons, List.flatMap_nil, List.append_nil]
        exact t4
    rintro H2 ⟨tm, e2, t2, s2⟩
    rw [Int.toNat_natCast] at t2
    have t2 : TupL H2 tm (midsW N e) := t2
    have hL2 := hL.same s2
    -- the tails
    refine ⟨_, rfl, sm, L, rfl, hL2, gL, fun H3 p3 G3 ts3 W s3 f3 r3 e3 l3 tl => ⟨p3, rfl, ⟨_, SqL.of e3⟩, fun D2 hD2 => ?_⟩⟩
    rw [self r3] at tl
    have lt3 : (ts3.map V.ref).length = W.length := by rw [List.length_map, l3.1]
    have fewW := tl.few
    refine lc_list (K := K) (a := p3) (xs := ts3.map V.ref) (fun k H' => Same H3 H' ∧ ∃ us : List Addr, H' D2 = some (.lst (us.map V.ref)) ∧ TupL H' us (W.take k)) ⟨same_upd (Same.refl _) hD2, [], upd_same, TupL.nil⟩ (fun k H' _ ⟨z, _⟩ => SqL.of (z _ _ e3)) ?_ ?_
    · rintro k y H4 hy ⟨s4, us, e4, t4⟩
      obtain ⟨t, ht, rfl⟩ := ofV hy
      have kl : k < W.length := by
        rw [← l3.1]
        exact (List.getElem?_eq_some_iff.mp ht).1
      have ew := List.getElem?_eq_getElem kl
      have et := s4 _ _ (l3.2 k t _ ht ew)
      refine ⟨rfl, ?_⟩
      refine ⟨_, rfl, t, _, rfl, .inl ⟨SqL.of et, fun b hb => ?_⟩⟩
      have s5 := same_upd (o := .tup (W[k].map V.int)) (Same.refl H4) hb
      have eb : (upd H4 b (.tup (W[k].map V.int))) b = some (.tup (W[k].map V.int)) := upd_same
      generalize upd H4 b (.tup (W[k].map V.int)) = H5 at *
      have lu := t4.1
      rw [List.length_take] at lu
      refine ⟨_, s5 _ _ e4, ?_, same_set (s4.trans s5) hD2, us ++ [b], by rw [upd_same, List.map_append]; rfl, ?_⟩
      · rw [List.length_map]
        exact Nat.lt_of_le_of_lt (by omega : us.length ≤ 30) (by decide)
      · rw [take_more ew]
        exact (t4.same s5).push (s5 _ _ e4) eb
    rintro H4 ⟨s4, tw, e4, t4⟩
    rw [lt3, List.take_length] at t4
    have s24 := s3.trans s4
    -- found
    intro Df hDf
    have s5 := same_upd (o := .dT []) (Same.refl H4) hDf
    have eDf : (upd H4 Df (.dT [])) Df = some (.dT (kvsW [])) := upd_same
    generalize upd H4 Df (.dT []) = H5 at *
    have s15 := (s2.trans s24).trans s5
    have hL5 := hL.same s15
    refine ⟨_, rfl, sm, L, rfl, hL5, F, fun H6 p6 th s6 f6 e6 t6 => ?_⟩
    have eDf6 := s6 _ _ eDf
    have em6 : H6 D1 = some (.lst (tm.map V.ref)) := s6 _ _ (s5 _ _ (s24 _ _ e2))
    have et6 : H6 D2 = some (.lst (tw.map V.ref)) := s6 _ _ (s5 _ _ e4)
    have tm6 : TupL H6 tm (midsW N e) := t2.same (s24.trans (s5.trans s6))
    have tw6 : TupL H6 tw W := t4.same (s5.trans s6)
    have fDf : H1 Df = none := (s2.trans s24).free hDf
    have keepL : ∀ {H' : Hp} {b : Addr} {xs : List V}, But H6 H' Df → H6 b = some (.lst xs) → H' b = some (.lst xs) := fun k h => k _ _ h fun z => by rw [z, eDf6] at h; cases h
    have keepT : ∀ {H' : Hp} {b : Addr} {u : List Int}, But H6 H' Df → IT H6 b u → IT H' b u := fun k h => k _ _ h fun z => by
      have h : H6 _ = _ := h
      rw [z, eDf6] at h
      cases h
    have lH : (headsW L).length ≤ 4000 := by
      have := heads_len gL
      omega
    refine ⟨p6, rfl, ⟨_, SqL.of e6⟩, for_list (K := K) (a := p6) (xs := th.map V.ref) (fun i σ H' => ∃ (v3 v7 v8 v9 v10 : Option V) (ws : List (List Int)), σ = [some (.ref f), some (.int (e : Int)), some (.ref sm), v3, some (.ref D1), some (.ref D2), some (.ref Df), v7, v8, v9, v10] ∧ But H6 H' Df ∧ H' Df = some (.dT (kvsW ws)) ∧ Found ws (((headsW L).take i).flatMap (duo (midsW N e) W)))
      ⟨_, _, _, _, _, [], rfl, Mz.Same.but (Same.refl _), eDf6, Found.nil⟩ (fun i σ H' _ ⟨_, _, _, _, _, _, _, k, _⟩ => SqL.of (keepL k e6)) ?_ ?_⟩
    · rintro i y σ H7 hy ⟨v3, v7, v8, v9, v10, ws, rfl, k7, ed7, fo7⟩
      obtain ⟨hA, hh, rfl⟩ := ofV hy
      have il : i < (headsW L).length := by
        rw [← t6.1]
        exact (List.getElem?_eq_some_iff.mp hh).1
      have eh := List.getElem?_eq_getElem il
      have ith := t6.2 i hA _ hh eh
      have hok := head_ok F (List.mem_of_getElem? eh)
      generalize (headsW L)[i] = h at eh ith hok
      have lP : (((headsW L).take i).flatMap (duo (midsW N e) W)).length ≤ 121 * (4000 * 29) := by
        refine Nat.le_trans (flat_le (c := 4000 * 29) fun y _ => Nat.le_trans duo_len (Nat.mul_le_mul lM (by omega))) (Nat.mul_le_mul ?_ (Nat.le_refl _))
        rw [List.length_take]
        have h1 := heads_len gL
        have h2 : (L.rows.length : Int) * L.ls ≤ 30 * 4 := Int.mul_le_mul (by omega) l4 (by omega) (by decide)
        omega
      refine ⟨_, rfl, D1, rfl, ⟨_, SqL.of (keepL k7 em6)⟩, for_list (K := K) (a := D1) (xs := tm.map V.ref) (fun j σ H' => ∃ (v3 v8 v9 v10 : Option V) (ws : List (List Int)), σ = [some (.ref f), some (.int (e : Int)), some (.ref sm), v3, some (.ref D1), some (.ref D2), some (.ref Df), some (.ref hA), v8, v9, v10] ∧ But H6 H' Df ∧ H' Df = some (.dT (kvsW ws)) ∧ Found ws (((headsW L).take i).flatMap (duo (midsW N e) W) ++ ((midsW N e).take j).flatMap (tri W h)))
        ⟨_, _, _, _, ws, rfl, k7, ed7, by rw [List.take_zero, List.flatMap_nil, List.append_nil]; exact fo7⟩ (fun j σ H' _ ⟨_, _, _, _, _, _, k, _⟩ => SqL.of (keepL k em6)) ?_ ?_⟩
      · rintro j y σ H8 hy8 ⟨w3, w8, w9, w10, ws8, rfl, k8, ed8, fo8⟩
        obtain ⟨mA, hm, rfl⟩ := ofV hy8
        have jl : j < (midsW N e).length := by
          rw [← tm6.1]
          exact (List.getElem?_eq_some_iff.mp hm).1
        have emm := List.getElem?_eq_getElem jl
        have itm := tm6.2 j mA _ hm emm
        have mok := mids_mem.mp (List.mem_of_getElem? emm)
        generalize (midsW N e)[j] = m at emm itm mok
        have lP2 : (((midsW N e).take j).flatMap (tri W h)).length ≤ 4000 * 29 := by
          refine Nat.le_trans (flat_le (c := 29) fun y _ => by rw [tri_len]; omega) (Nat.mul_le_mul ?_ (Nat.le_refl _))
          rw [List.length_take]
          omega
        refine ⟨_, rfl, D2, rfl, ⟨_, SqL.of (keepL k8 et6)⟩, for_list (K := K) (a := D2) (xs := tw.map V.ref) (fun k σ H' => ∃ (v8 v9 v10 : Option V) (ws : List (List Int)), σ = [some (.ref f), some (.int (e : Int)), some (.ref sm), some (.ref mA), some (.ref D1), some (.ref D2), some (.ref Df), some (.ref hA), v8, v9, v10] ∧ But H6 H' Df ∧ H' Df = some (.dT (kvsW ws)) ∧ Found ws (((headsW L).take i).flatMap (duo (midsW N e) W) ++ ((midsW N e).take j).flatMap (tri W h) ++ (W.take k).map fun t => h ++ m ++ t))
          ⟨_, _, _, ws8, rfl, k8, ed8, by rw [List.take_zero, List.map_nil, List.append_nil]; exact fo8⟩ (fun k σ H' _ ⟨_, _, _, _, _, z, _⟩ => SqL.of (keepL z et6)) ?_ ?_⟩
        · rintro k y σ H9 hy9 ⟨x8, x9, x10, ws9, rfl, k9, ed9, fo9⟩
          obtain ⟨tA, ht, rfl⟩ := ofV hy9
          have kl : k < W.length := by
            rw [← tw6.1]
            exact (List.getElem?_eq_some_iff.mp ht).1
          have ett := List.getElem?_eq_getElem kl
          have itt := tw6.2 k tA _ ht ett
          have tok := tl.ok _ (List.mem_of_getElem? ett)
          generalize W[k] = t at ett itt tok
          refine ⟨_, rfl, _, rfl, _, rfl, ?_⟩
          refine catA_any (keepT k9 ith) (keepT k9 itm) (by rw [List.length_map, List.length_map]; exact Nat.le_trans (show h.length + m.length ≤ 100 by omega) (by decide)) fun HA qA sA eA => ?_
          refine ⟨_, rfl, ?_⟩
          rw [← List.map_append] at eA
          refine catA_any eA (sA _ _ (keepT k9 itt)) (by rw [List.length_map, List.length_map, List.length_append]; exact Nat.le_trans (show h.length + m.length + t.length ≤ 200 by omega) (by decide)) fun HB qB sB eB => ?_
          rw [← List.map_append, ← keyW_V] at eB
          have kB : But H6 HB Df := (k9.trans (Mz.Same.but sA)).trans (Mz.Same.but sB)
          have edB := sB _ _ (sA _ _ ed9)
          refine ⟨Df, _, rfl, DPut.t edB eB ?_, ?_⟩
          · rw [kvsW_len]
            have := fo9.few
            rw [List.length_append, List.length_append, List.length_map, List.length_take] at this
            rw [sizeLine_eq]
            omega
          · rw [put_ins fo9.nd]
            refine ⟨_, _, _, insW ws9 (h ++ m ++ t), rfl, fun b o hb hn => ?_, upd_same, ?_⟩
            · rw [upd_ne hn]
              exact kB b o hb hn
            · refine (fo9.ins (h ++ m ++ t)).to ?_
              rw [take_more ett, List.map_append, ← List.append_assoc]
              rfl
        · rintro σ H9 ⟨x8, x9, x10, ws9, rfl, k9, ed9, fo9⟩
          refine ⟨_, _, _, _, ws9, rfl, k9, ed9, fo9.to ?_⟩
          rw [List.length_map, tw6.1, List.take_length, take_more emm, List.flatMap_append, List.flatMap_cons, List.flatMap_nil, List.append_nil, ← List.append_assoc]
          rfl
      · rintro σ H8 ⟨w3, w8, w9, w10, ws8, rfl, k8, ed8, fo8⟩
        refine ⟨_, _, _, _, _, ws8, rfl, k8, ed8, fo8.to ?_⟩
        rw [List.length_map, tm6.1, List.take_length, take_more eh, List.flatMap_append, List.flatMap_cons, List.flatMap_nil, List.append_nil]
        rfl
    · rintro σ H7 ⟨v3, v7, v8, v9, v10, ws, rfl, k7, ed7, fo7⟩
      rw [List.length_map, t6.1, List.take_length] at fo7
      refine ⟨_, rfl, ?_⟩
      refine sort_words (ws := ws) ed7 (by unfold kvsW; rw [List.map_map]; rfl) fo7.nd fun H8 p8 ts8 ws8 s8 f8 e8 len8 at8 pm asc => ?_
      refine ⟨p8, rfl, ⟨_, SqL.of e8⟩, fun D hD => ?_⟩
      have lts : (ts8.map V.ref).length = ws8.length := by rw [List.length_map, len8]
      have lws := pm.length_eq
      have few := fo7.few
      have fl1 : ((headsW L).flatMap (duo (midsW N e) W)).length ≤ (headsW L).length * ((midsW N e).length * W.length) := flat_le fun y _ => duo_len
      have hm4 : ((headsW L).length : Int) * ((midsW N e).length * W.length) ≤ mostW L.ls L.rows.length e := by
        have h1 := heads_len gL
        have h2 := mids_len (L := N) (e := e)
        rw [← eN] at h2
        unfold mostW
        rw [h1, h2, Int.mul_assoc]
        refine Int.mul_le_mul_of_nonneg_left (Int.mul_le_mul_of_nonneg_left ?_ ?_) ?_
        · split <;> omega
        · omega
        · have := Int.mul_nonneg (show (0 : Int) ≤ (L.rows.length : Int) by omega) (show 0 ≤ L.ls by omega)
          omega
      have fl2 : (ws.length : Int) ≤ mostW L.ls L.rows.length e := by
        have h1 : ws.length ≤ (headsW L).length * ((midsW N e).length * W.length) := Nat.le_trans few fl1
        have h2 : (ws.length : Int) ≤ (((headsW L).length * ((midsW N e).length * W.length) : Nat) : Int) := Int.ofNat_le.mpr h1
        push_cast at h2
        omega
      refine lc_list (K := K) (a := p8) (xs := ts8.map V.ref) (fun k H' => Same H8 H' ∧ ∃ us : List Addr, H' D = some (.lst (us.map V.ref)) ∧ LLd H' us (ws8.take k) D) ⟨same_upd (Same.refl _) hD, [], upd_same, LLd.nil⟩ (fun k H' _ ⟨z, _⟩ => SqL.of (z _ _ e8)) ?_ ?_
      · rintro k y H9 hy ⟨s9, us, e9, l9⟩
        obtain ⟨t, ht, rfl⟩ := ofV hy
        have kl : k < ws8.length := by
          rw [← len8]
          exact (List.getElem?_eq_some_iff.mp ht).1
        have ew := List.getElem?_eq_getElem kl
        have et := s9 _ _ (at8 k t _ ht ew)
        refine ⟨rfl, ?_⟩
        refine ⟨_, rfl, t, _, rfl, .inr (SqT.of et), fun b hb => ?_⟩
        have s10 := same_upd (o := .lst (ws8[k].map V.int)) (Same.refl H9) hb
        have eb : (upd H9 b (.lst (ws8[k].map V.int))) b = some (.lst (ws8[k].map V.int)) := upd_same
        have bD : b ≠ D := fun z => by rw [z, e9] at hb; cases hb
        generalize upd H9 b (.lst (ws8[k].map V.int)) = HA at *
        have lu := l9.1.1
        rw [List.length_take] at lu
        refine ⟨_, s10 _ _ e9, ?_, same_set (s9.trans s10) hD, us ++ [b], by rw [upd_same, List.map_append]; rfl, ?_⟩
        · rw [List.length_map]
          exact Nat.lt_of_le_of_lt (by omega : us.length ≤ 5000) (by decide)
        · rw [take_more ew]
          exact (l9.same s10).push eb bD _
      · rintro H9 ⟨s9, us, e9, l9⟩
        rw [lts, List.take_length] at l9
        refine yes H9 D us ws8 (fun b o hb => ?_) (by omega) (by omega) q2 e9 l9.1 ⟨asc, ⟨W, tl, fun u => ?_⟩, by rw [lws]; exact fl2⟩
        · have h1 := s1 _ _ hb
          have h6 := s6 _ _ (s15 _ _ h1)
          exact s9 _ _ (s8 _ _ (k7 b o h6 fun z => by rw [z, fDf] at h1; cases h1))
        · rw [pm.mem_iff, fo7.mem, ← all_mem, eT]
end
end K25

set_option Elab.async false
set_option linter.all false
set_option maxRecDepth 100000
set_option maxHeartbeats 4000000
/-! pairs of states met side by side -/
namespace Mz
open PySem PySem.Spec PyProof.Rows L2
/-- the pairs met, the ones below i done -/
structure Met (A B : Mach) (D : List Pr) (i : Nat) : Prop where
  st : D[0]? = some (0, 0)
  nd : D.Nodup
  inp : ∀ p ∈ D, A.St p.1 ∧ B.St p.2
  way : ∀ p ∈ D, ∃ v, Lt A.ls v ∧ p = (A.run 0 v, B.run 0 v)
  done : ∀ j p, j < i → D[j]? = some p → A.out p.1 = B.out p.2 ∧ ∀ a : Nat, (a : Int) < A.ls → (A.next p.1 a, B.next p.2 a) ∈ D
theorem Met.few {A B : Mach} {D : List Pr} {i : Nat} (m : Met A B D i) : D.length ≤ A.rows.length * B.rows.length := by
  have h := nodup_few (A.rows.length * B.rows.length) (D.map fun p => p.1.toNat * B.rows.length + p.2.toNat) ?_ ?_
  · rw [List.length_map] at h
    exact h
  · refine List.pairwise_map.mpr (List.Pairwise.imp_of_mem (fun {p q} hp hq ne e => ne ?_) m.nd)
    obtain ⟨⟨a1, a2⟩, b1, b2⟩ := m.inp p hp
    obtain ⟨⟨c1, c2⟩, d1, d2⟩ := m.inp q hq
    have e1 : p.2.toNat = q.2.toNat := by
      have := congrArg (· % B.rows.length) e
      simp only [Nat.mul_add_mod_self_right, Nat.mul_comm _ B.rows.length, Nat.mul_add_mod] at this
      rw [Nat.mod_eq_of_lt (by omega), Nat.mod_eq_of_lt (by omega)] at this
      exact this
    have e2 : p.1.toNat = q.1.toNat := by
      rw [e1] at e
      exact Nat.eq_of_mul_eq_mul_right (by omega) (Nat.add_right_cancel e)
    exact Prod.ext (by omega) (by omega)
  · intro x hx
    obtain ⟨p, hp, rfl⟩ := List.mem_map.mp hx
    obtain ⟨⟨a1, a2⟩, b1, b2⟩ := m.inp p hp
    have h1 : p.1.toNat + 1 ≤ A.rows.length := by omega
    have h2 : p.2.toNat < B.rows.length := by omega
    calc p.1.toNat * B.rows.length + p.2.toNat < p.1.toNat * B.rows.length + B.rows.length := by omega
      _ = (p.1.toNat + 1) * B.rows.length := by rw [Nat.succ_mul]
      _ ≤ _ := Nat.mul_le_mul_right _ h1
theorem Met.sim {A B : Mach} {D : List Pr} (m : Met A B D (A.rows.length * B.rows.length)) (gA : Good A) : Sim A B 0 0 := by
  have cl : ∀ p ∈ D, A.out p.1 = B.out p.2 ∧ ∀ a : Nat, (a : Int) < A.ls → (A.next p.1 a, B.next p.2 a) ∈ D := fun p hp => by
    obtain ⟨j, hj⟩ := List.getElem?_of_mem hp
    have jl := (List.getElem?_eq_some_iff.mp hj).1
    exact m.done j p (by have := m.few; omega) hj
  have run : ∀ v, Lt A.ls v → (A.run 0 v, B.run 0 v) ∈ D := by
    intro v
    induction v using snoc_ind with
    | h0 => exact fun _ => List.mem_of_getElem? m.st
    | hs v a ih =>
      intro hv
      obtain ⟨v1, a0, a1⟩ := lt_snoc.mp hv
      rw [run_snoc, run_snoc]
      have := (cl _ (ih v1)).2 a.toNat (by omega)
      rw [show ((a.toNat : Nat) : Int) = a by omega] at this
      exact this
  exact fun v hv => (cl _ (run v hv)).1
theorem Met.not {A B : Mach} {D : List Pr} {i : Nat} (m : Met A B D i) {p : Pr} (h : p ∈ D) (ne : A.out p.1 ≠ B.out p.2) : ¬ Sim A B 0 0 := fun s => by
  obtain ⟨v, hv, rfl⟩ := m.way p h
  exact ne (s v hv)
theorem Met.start {A B : Mach} (gA : Good A) (gB : Good B) : Met A B [(0, 0)] 0 := ⟨rfl, by simp, fun p hp => by rw [List.mem_singleton.mp hp]; exact ⟨gA.st0, gB.st0⟩, fun p hp => by rw [List.mem_singleton.mp hp]; exact ⟨[], fun z hz => absurd hz (by simp), rfl⟩, fun j p h => absurd h (Nat.not_lt_zero _)⟩
end Mz

set_option Elab.async false
set_option linter.all false
set_option maxRecDepth 100000
set_option maxHeartbeats 4000000
namespace K25
open PySem PySem.Spec PyProof.Rows L2 Mz
def spDiffer : Sp := fun vs H Q _ => ∃ (a b : Addr) (A B : Mach), vs = [.ref a, .ref b] ∧ MA H a A ∧ MA H b B ∧ Good A ∧ Good B ∧ A.ls = B.ls ∧ ∀ (H' : Hp) (d : Bool), Same H H' → (d = true ↔ ¬ Sim A B 0 0) → Q (.bl d) H'
section
variable {P : Program} {w : World} {K : PySem.W.Frag} {mg : Str → Option Value} {base : Heap} {A : Ads}
theorem ok_differ (T : Txt K mg A) : FnOk P w K mg base CX0 1 A.a_law_differ A.d_law_differ ["first", "second"] spDiffer := by
  refine T.F_law_differ.ok sc_law_differ (fun vs H Q E h => ?_) (fun cdv Ar outer s H vs Q E hr h => ?_)
  · obtain ⟨_, _, _, _, rfl, _⟩ := h
    rfl
  · obtain ⟨a, b, M, N, rfl, ⟨mv, ou, rs, hM⟩, ⟨mv2, ou2, rs2, hN⟩, gM, gN, ls, fin⟩ := h
    refine ⟨_, (pss_cons (ps_set (i := 2) sc_law_differ.nd rfl (Or.inl rfl) (pe_lst (pa_cons (pe_tup (pa_cons pe_int (pa_cons pe_int pa_nil))) pa_nil)))
      (pss_cons (ps_for PassesOwn.never rfl (pi_range1 (by rfl) T.n_range (pa_cons (pe_op op_mul (pe_callB call_len_seq (by rfl) T.n_len PySem.boot_len (pa_cons (pe_ix (r := rIx K) ix_seq (pv 0) pe_int (fun _ _ => rfl)) pa_nil)) (pe_callB call_len_seq (by rfl) T.n_len PySem.boot_len (pa_cons (pe_ix (r := rIx K) ix_seq (pv 1) pe_int (fun _ _ => rfl)) pa_nil))) pa_nil)) (pg_name (i := 3) sc_law_differ.nd rfl (Or.inl rfl))
        (pss_one (ps_if (pt_cmpR op_lt (pv 3) (pe_callB call_len_seq (by rfl) T.n_len PySem.boot_len (pa_cons (pv 2) pa_nil)) (nomark _)) (pss_cons (ps_set (i := 4) sc_law_differ.nd rfl (Or.inl rfl) (pe_ix (r := rIx K) ix_seq (pv 2) (pv 3) (fun _ _ => rfl)))
              (pss_cons (ps_if (pt_cmpR op_ne (pe_ix (r := rIx K) ix_seq (pe_ix (r := rIx K) ix_seq (pv 0) pe_int (fun _ _ => rfl)) (pe_ix (r := rIx K) ix_seq (pv 4) pe_int (fun _ _ => rfl)) (fun _ _ => rfl)) (pe_ix (r := rIx K) ix_seq (pe_ix (r := rIx K) ix_seq (pv 1) pe_int (fun _ _ => rfl)) (pe_ix (r := rIx K) ix_seq (pv 4) pe_int (fun _ _ => rfl)) (fun _ _ => rfl)) (nomark _)) (pss_one (ps_ret pe_bl)) pss_nil)
              (pss_one (ps_for PassesOwn.never rfl (pi_range1 (by rfl) T.n_range (pa_cons (pe_ix (r := rIx K) ix_seq (pv 0) pe_int (fun _ _ => rfl)) pa_nil)) (pg_name (i := 5) sc_law_differ.nd rfl (Or.inl rfl))
                (pss_cons (ps_set (i := 6) sc_law_differ.nd rfl (Or.inl rfl) (pe_tup (pa_cons (pe_ix (r := rIx K) ix_seq (pe_ix (r := rIx K) ix_seq (pe_ix (r := rIx K) ix_seq (pv 0) pe_int (fun _ _ => rfl)) (pe_ix (r := rIx K) ix_seq (pv 4) pe_int (fun _ _ => rfl)) (fun _ _ => rfl)) (pv 5) (fun _ _ => rfl)) (pa_cons (pe_ix (r := rIx K) ix_seq (pe_ix (r := rIx K) ix_seq (pe_ix (r := rIx K) ix_seq (pv 1) pe_int (fun _ _ => rfl)) (pe_ix (r := rIx K) ix_seq (pv 4) pe_int (fun _ _ => rfl)) (fun _ _ => rfl)) (pv 5) (fun _ _ => rfl)) pa_nil))))
                  (pss_one (ps_if (pt_cmpR (op_notInD (hu65 hr)) (pv 6) (pv 2) rfl) (pss_one (ps_expr (pe_bm PySem.F.plainAttrs_list PySem.F.slot_list_append PySem.F.type_list_append mt_append (pv 2) (pa_cons (pv 6) pa_nil)))) pss_nil))))))) pss_nil)))
      (pss_one (ps_ret pe_bl)))), ?_⟩
    have m30 := gM.s30
    have n30 := gN.s30
    have ml := gM.ol
    have nl := gN.ol
    have l4 := gM.l4
    have l1 := gM.l1
    have mn : M.rows.length * N.rows.length ≤ 900 := Nat.mul_le_mul m30 n30
    refine ⟨(by show 2 ≤ sizeLine; decide), fun t0 ht0 => ⟨(by show 1 ≤ sizeLine; decide), fun pa hpa => ?_⟩⟩
    have s1 := same_upd (o := .tup [.int 0, .int 0]) (Same.refl H) ht0
    have fpa : H pa = none := s1.free hpa
    have s2 := same_upd (o := .lst [.ref t0]) s1 hpa
    have e0 : (upd (upd H t0 (.tup [.int 0, .int 0])) pa (.lst [.ref t0])) t0 = some (.tup [.int 0, .int 0]) := (same_upd (Same.refl _) hpa) _ _ upd_same
    have e1 : (upd (upd H t0 (.tup [.int 0, .int 0])) pa (.lst [.ref t0])) pa = some (.lst ([t0].map V.ref)) := upd_same
    generalize upd (upd H t0 (.tup [.int 0, .int 0])) pa (.lst [.ref t0]) = H1 at s2 e0 e1
    have hM1 := hM.same s2
    have hN1 := hN.same s2
    refine ⟨_, rfl, .inr (.inl ⟨a, _, 3, .ref ou, rfl, rfl, SqT.of hM1.top, rfl, ou, _, rfl, .inr (SqT.of hM1.ou), ?_⟩)⟩
    refine ⟨_, rfl, .inr (.inl ⟨b, _, 3, .ref ou2, rfl, rfl, SqT.of hN1.top, rfl, ou2, _, rfl, .inr (SqT.of hN1.ou), ?_⟩)⟩
    rw [List.length_map, List.length_map, ml, nl]
    have mnI : (M.rows.length : Int) * (N.rows.length : Int) = ((M.rows.length * N.rows.length : Nat) : Int) := by rw [Int.natCast_mul]
    refine ⟨_, _, rfl, rfl, .inl ⟨by omega, by omega⟩, ?_⟩
    have mnT : ((M.rows.length : Int) * (N.rows.length : Int)).toNat = M.rows.length * N.rows.length := by rw [mnI]; omega
    refine ⟨_, rfl, by rw [mnI]; omega, by rw [mnI]; omega, for_range (fun i σ H' => ∃ (ts : List Addr) (D : List Pr) (v3 v4 v5 v6 : Option V), σ = [some (.ref a), some (.ref b), some (.ref pa), v3, v4, v5, v6] ∧ Same H H' ∧ H' pa = some (.lst (ts.map V.ref)) ∧ PrL H' ts D ∧ Met M N D i)
      ⟨[t0], [(0, 0)], _, _, _, _, rfl, s2, e1, ⟨rfl, fun i x p h1 h2 => ?_⟩, Met.start gM gN⟩ ?_ ?_⟩
    · have i0 : i = 0 := by
        have := (List.getElem?_eq_some_iff.mp h1).1
        simp at this
        exact this
      subst i0
      cases h1
      cases h2
      exact e0
    · clear e0 e1 hM1 hN1 s2
      rintro i σ H2 hi ⟨ts, D, v3, v4, v5, v6, rfl, s2, e1, pr, met⟩
      have few := met.few
      have lt := pr.1
      refine ⟨_, rfl, _, rfl, pa, _, rfl, .inl (SqL.of e1), ?_⟩
      rw [List.length_map]
      refine ⟨_, _, rfl, rfl, _, rfl, ?_⟩
      by_cases c : i < ts.length
      · refine ifDT (decide_eq_true (by omega)) ?_
        have ets := List.getElem?_eq_getElem c
        have eD := List.getElem?_eq_getElem (show i < D.length by omega)
        generalize ts[i] = tp at ets
        generalize D[i] = p at eD
        have htp := pr.2 i tp p ets eD
        obtain ⟨p1, p2⟩ := met.inp p (List.mem_of_getElem? eD)
        have hM2 := hM.same s2
        have hN2 := hN.same s2
        refine ⟨_, rfl, _, rfl, .inl ⟨pa, _, _, _, rfl, rfl, SqL.of e1, atI_get? (by omega) (by rw [show ((0 : Int) + (i : Int)).toNat = i by omega]; exact ets), ?_⟩⟩
        refine ⟨_, rfl, .inr (.inl ⟨a, _, 3, .ref ou, rfl, rfl, SqT.of hM2.top, rfl, ?_⟩)⟩
        refine ⟨_, rfl, .inr (.inl ⟨tp, _, 0, _, rfl, rfl, SqT.of htp, rfl, ?_⟩)⟩
        refine .inr (.inl ⟨ou, _, _, _, rfl, rfl, SqT.of hM2.ou, atI_get? p1.1 (gM.outp p1).1, ?_⟩)
        refine ⟨_, rfl, .inr (.inl ⟨b, _, 3, .ref ou2, rfl, rfl, SqT.of hN2.top, rfl, ?_⟩)⟩
        refine ⟨_, rfl, .inr (.inl ⟨tp, _, 1, _, rfl, rfl, SqT.of htp, rfl, ?_⟩)⟩
        refine .inr (.inl ⟨ou2, _, _, _, rfl, rfl, SqT.of hN2.ou, atI_get? p2.1 (gN.outp p2).1, ?_⟩)
        refine ⟨rfl, _, rfl, ?_⟩
        by_cases oe : M.out p.1 = N.out p.2
        · refine ifDF (by rw [oe]; simp) ?_
          refine ⟨_, rfl, .inr (.inl ⟨a, _, 0, .int M.ls, rfl, rfl, SqT.of hM2.top, rfl, M.ls, rfl, by omega, by omega, for_range (fun j σ H' => ∃ (ts2 : List Addr) (D2 : List Pr) (v5 v6 : Option V), σ = [some (.ref a), some (.ref b), some (.ref pa), some (.int ((0 : Int) + (i : Int))), some (.ref tp), v5, v6] ∧ Same H H' ∧ H' pa = some (.lst (ts2.map V.ref)) ∧ PrL H' ts2 D2 ∧ D2[i]? = some p ∧ H' tp = some (.tup [.int p.1, .int p.2]) ∧ Met M N D2 i ∧ ∀ x : Nat, x < j → (M.next p.1 x, N.next p.2 x) ∈ D2)
            ⟨ts, D, _, _, rfl, s2, e1, pr, eD, htp, met, fun x h => absurd h (Nat.not_lt_zero _)⟩ ?_ ?_⟩)⟩
          · clear e1 pr eD htp met s2 few lt ets hM2 hN2
            rintro j σ H3 hj ⟨ts2, D2, v5, v6, rfl, s3, e1, pr, eD, htp, met, ins⟩
            have hM3 := hM.same s3
            have hN3 := hN.same s3
            have z0 : (0 : Int) ≤ (0 : Int) + (j : Int) := by omega
            have z1 : (0 : Int) + (j : Int) < M.ls := by omega
            have ez : (0 : Int) + (j : Int) = (j : Int) := by omega
            generalize (0 : Int) + (j : Int) = z at z0 z1 ez
            obtain ⟨q1, w1, a1, a2⟩ := gM.step p1 z0 z1
            obtain ⟨q2, w2, b1, b2⟩ := gN.step p2 z0 (by rw [← ls]; exact z1)
            obtain ⟨r1, a3, a4⟩ := hM3.rowAt p1.1 a1
            obtain ⟨r2, b3, b4⟩ := hN3.rowAt p2.1 b1
            refine ⟨_, rfl, .inr (.inl ⟨a, _, 2, .ref mv, rfl, rfl, SqT.of hM3.top, rfl, ?_⟩)⟩
            refine ⟨_, rfl, .inr (.inl ⟨tp, _, 0, _, rfl, rfl, SqT.of htp, rfl, ?_⟩)⟩
            refine .inr (.inl ⟨mv, _, _, _, rfl, rfl, SqT.of hM3.mv, a3, ?_⟩)
            refine ⟨_, rfl, .inr (.inl ⟨r1, _, _, _, rfl, rfl, SqT.of a4, atI_get? z0 a2, ?_⟩)⟩
            refine ⟨_, rfl, .inr (.inl ⟨b, _, 2, .ref mv2, rfl, rfl, SqT.of hN3.top, rfl, ?_⟩)⟩
            refine ⟨_, rfl, .inr (.inl ⟨tp, _, 1, _, rfl, rfl, SqT.of htp, rfl, ?_⟩)⟩
            refine .inr (.inl ⟨mv2, _, _, _, rfl, rfl, SqT.of hN3.mv, b3, ?_⟩)
            refine ⟨_, rfl, .inr (.inl ⟨r2, _, _, _, rfl, rfl, SqT.of b4, atI_get? z0 b2, ?_⟩)⟩
            refine ⟨(by show 2 ≤ sizeLine; decide), fun t ht => ?_⟩
            have s4 := same_upd (o := .tup [.int (M.next p.1 z), .int (N.next p.2 z)]) (Same.refl H3) ht
            have et : (upd H3 t (.tup [.int (M.next p.1 z), .int (N.next p.2 z)])) t = some (.tup [.int (M.next p.1 z), .int (N.next p.2 z)]) := upd_same
            generalize upd H3 t (.tup [.int (M.next p.1 z), .int (N.next p.2 z)]) = H4 at s4 et
            have e4 := s4 _ _ e1
            have pr4 := pr.same s4
            refine ⟨_, rfl, _, rfl, notin_prs (x := (M.next p.1 z, N.next p.2 z)) et e4 pr4 ⟨_, rfl, ?_⟩⟩
            by_cases mm : (M.next p.1 z, N.next p.2 z) ∈ D2
            · refine ifDF (by rw [decide_eq_true mm]; rfl) ?_
              refine ⟨ts2, D2, _, _, rfl, s3.trans s4, e4, pr4, eD, s4 _ _ htp, met, fun x hx => ?_⟩
              by_cases ex : x = j
              · rw [ex, ← ez]
                exact mm
              · exact ins x (by omega)
            · refine ifDT (by rw [decide_eq_false mm]; rfl) ?_
              refine ⟨_, rfl, .inl ⟨rfl, _, SqL.of e4⟩, _, rfl, pa, _, _, rfl, rfl, e4, ?_, ?_⟩
              · rw [List.length_map]
                have := met.few
                exact Nat.lt_of_le_of_lt (by have := pr.1; omega : ts2.length ≤ 900) (by decide)
              · have keep : ∀ {x u}, H4 x = some (HO.tup u) → (upd H4 pa (.lst (ts2.map V.ref ++ [.ref t]))) x = some (.tup u) := fun {x u} h => by
                  rw [upd_ne fun z => by
                    rw [z, e4] at h
                    cases h]
                  exact h
                refine ⟨ts2 ++ [t], D2 ++ [(M.next p.1 z, N.next p.2 z)], _, _, rfl, same_set (s3.trans s4) fpa, by rw [upd_same, List.map_append]; rfl, ⟨by rw [List.length_append, List.length_append, pr.1]; rfl, fun k x q h1 h2 => ?_⟩, get_app1 eD, keep (s4 _ _ htp), ⟨get_app1 met.st, ?_, ?_, ?_, ?_⟩, fun x hx => ?_⟩
                · rcases get_app h2 with y | ⟨y1, y2⟩
                  · rcases get_app h1 with u | ⟨u1, u2⟩
                    · exact keep (pr4.2 k x q u y)
                    · have := (List.getElem?_eq_some_iff.mp y).1
                      rw [← pr.1] at this
                      omega
                  · rcases get_app h1 with u | ⟨u1, u2⟩
                    · have := (List.getElem?_eq_some_iff.mp u).1
                      rw [pr.1] at this
                      omega
                    · rw [u2, y2]
                      exact keep et
                · refine List.nodup_append.mpr ⟨met.nd, by simp, fun x hx y hy e => ?_⟩
                  rw [List.mem_singleton.mp hy] at e
                  rw [e] at hx
                  exact mm hx
                · intro q hq
                  rcases List.mem_append.mp hq with h | h
                  · exact met.inp q h
                  · rw [List.mem_singleton.mp h]
                    exact ⟨q1, q2⟩
                · intro q hq
                  rcases List.mem_append.mp hq with h | h
                  · exact met.way q h
                  · rw [List.mem_singleton.mp h]
                    obtain ⟨v, hv, ep⟩ := met.way p (List.mem_of_getElem? eD)
                    refine ⟨v ++ [z], lt_snoc.mpr ⟨hv, z0, z1⟩, ?_⟩
                    rw [run_snoc, run_snoc, ep]
                · intro k q hk hq
                  have il := (List.getElem?_eq_some_iff.mp eD).1
                  rw [List.getElem?_append_left (by omega)] at hq
                  obtain ⟨d1, d2⟩ := met.done k q hk hq
                  exact ⟨d1, fun x hx => List.mem_append.mpr (.inl (d2 x hx))⟩
                · by_cases ex : x = j
                  · rw [ex, ← ez]
                    exact List.mem_append.mpr (.inr List.mem_cons_self)
                  · exact List.mem_append.mpr (.inl (ins x (by omega)))
          · rintro σ H3 ⟨ts2, D2, v5, v6, rfl, s3, e1, pr, eD, htp, met2, ins⟩
            refine ⟨ts2, D2, _, _, _, _, rfl, s3, e1, pr, ⟨met2.st, met2.nd, met2.inp, met2.way, fun j q hj hq => ?_⟩⟩
            by_cases ej : j = i
            · subst ej
              rw [eD] at hq
              cases hq
              exact ⟨oe, fun x hx => ins x (by omega)⟩
            · exact met2.done j q (by omega) hq
        · refine ifDT (by simpa using oe) ?_
          exact fin H2 true s2 ⟨(fun _ => met.not (List.mem_of_getElem? eD) oe), (fun _ => rfl)⟩
      · refine ifDF (decide_eq_false (by omega)) ?_
        exact ⟨ts, D, _, _, _, _, rfl, s2, e1, pr, ⟨met.st, met.nd, met.inp, met.way, fun j p hj hp => met.done j p (by have := (List.getElem?_eq_some_iff.mp hp).1; omega) hp⟩⟩
    · rintro σ H2 ⟨ts, D, v3, v4, v5, v6, rfl, s2, e1, pr, met⟩
      rw [mnT] at met
      exact fin H2 false s2 ⟨(fun z => by cases z), (fun z => absurd (Met.sim met gM) z)⟩
end
end K25

set_option Elab.async false
set_option linter.all false
set_option maxRecDepth 100000
set_option maxHeartbeats 4000000
/-! any(..) of a generator whose body may do anything: draining by next -/
namespace Mz
open PySem PySem.Spec PyProof.Rows L2 GenW
/-- a truth comes out: true ends all; behind false the generator goes on -/
def YB (a : Addr) (g : Nat) (Qt : Bool → Shared → Prop) : Protocol := fun n s₀ v s1 kap =>
  s1.heap.IsGen a g ∧ s1.heap.NoLimit ∧ AllBare s1.gens ∧ ((v = .bool true ∧ ∀ G : Array GenState, AllBare G → Qt true { s1 with gens := G }) ∨ (v = .bool false ∧ ∀ G : Array GenState, AllBare G → kap (.send .none) { s1 with gens := G }))
def FB (Qt : Bool → Shared → Prop) : Nat → Shared → Shared → Prop := fun _ _ s1 => AllBare s1.gens ∧ ∀ (G : Array GenState) (h' : Heap), AllBare G → (∀ b o, s1.heap.get? b = some o → h'.get? b = some o) → Qt false { s1 with gens := G, heap := h' }
def RB (Qt : Bool → Shared → Prop) : GenEnd := fun n s₀ r s1 => ((r = .ok (.ret .none) ∨ r = .ok .next) ∧ FB Qt n s₀ s1) ∨ ∃ e, r = .error e ∧ False
theorem any_drain {P : Program} {w : World} {A : Around} {R : Result → Shared → Prop} {a : Addr} {g : Nat} {Qt : Bool → Shared → Prop} (hh : A.handled = none) (hd : A.depth < recursionLimit)
    (hR : ∀ b s', Qt b s' → R (.ok (.ret (.bool b))) s') : ∀ (m : Nat) (s : Shared), s.heap.IsGen a g → s.heap.NoLimit →
      (∃ gs, s.gens[g]? = some gs ∧ gs.Goes (model P w) A.in1.in1 (RB Qt) (YB a g Qt) m (.send .none) (s.setGen g .running)) →
      codeAny (model P w) A (.builtin "any.loop" ⟨[.ref a], []⟩) R s := by
  have goes : ∀ {gs : GenState} {B : Around} {n : Nat} {r : Resume} {s : Shared}, gs.Goes (model P w) B (RB Qt) (YB a g Qt) n r s →
      gs.Goes (model P w) B (fun n s₀ r s1 => ((r = .ok (.ret .none) ∨ r = .ok .next) ∧ FB Qt n s₀ s1) ∨ ∃ e, r = .error e ∧ (fun _ _ => False) e s1) (YB a g Qt) n r s := fun h => h
  intro m
  induction m with
  | zero =>
    intro s hg hl ⟨gs, hgs, hgo⟩
    refine codeAny_builtin F.entry_any_loop ?_
    rw [Around.under_plainId F.plain_any_loop _]
    show wpAny _ A.in1 (pyNext (.ref a) >>= _) _ _ s
    refine wpAny_bind (next_genG (A := A.in1) hh hl hd hg hgs (goes hgo) (fun v s₁ gs' hbare hv => ?_) (fun s₁ hp h' hk => ?_) fun e s₁ he => ?_)
    · obtain ⟨hg1, hl1, hb1, h1 | h1⟩ := hv
      · obtain ⟨rfl, hq⟩ := h1
        refine wpAny_bind (wpAny_holding (wpAny_truthy_bool (wpAny_bind (wpAny_letGo ?_))))
        simp only [if_true]
        exact wpAny_bind (wpAny_rule (wpAny_pure (hR true _ (hq _ (allBare_setGen hb1 hbare)))))
      · exact (h1.2 #[] (fun y hy => absurd hy (by simp))).elim
    · exact wpAny_bind (wpAny_rule (wpAny_pure (hR false _ (hp.2 _ h' (allBare_setGen hp.1 rfl) hk))))
    · exact he.elim
  | succ m ih =>
    intro s hg hl ⟨gs, hgs, hgo⟩
    have hgl : g < s.gens.size := (Array.getElem?_eq_some_iff.mp hgs).1
    refine codeAny_builtin F.entry_any_loop ?_
    rw [Around.under_plainId F.plain_any_loop _]
    show wpAny _ A.in1 (pyNext (.ref a) >>= _) _ _ s
    refine wpAny_bind (wpAny_gsz (n := g + 1) hgl (next_genG (A := A.in1) hh hl hd hg hgs (goes hgo) (fun v s₁ gs' hbare hv => ?_) (fun s₁ hp h' hk => ?_) fun e s₁ he => ?_))
    · intro hsz
      obtain ⟨hg1, hl1, hb1, h1 | h1⟩ := hv
      · obtain ⟨rfl, hq⟩ := h1
        refine wpAny_bind (wpAny_holding (wpAny_truthy_bool (wpAny_bind (wpAny_letGo ?_))))
        simp only [if_true]
        exact wpAny_bind (wpAny_rule (wpAny_pure (hR true _ (hq _ (allBare_setGen hb1 hbare)))))
      · obtain ⟨rfl, hk⟩ := h1
        refine wpAny_bind (wpAny_holding (wpAny_truthy_bool (wpAny_bind (wpAny_letGo ?_))))
        simp only [Bool.false_eq_true, if_false]
        have hsz1 : g < s₁.gens.size := by
          have q : (s₁.setGen g gs').gens.size = s₁.gens.size := setGen_size _ _ _
          have hsz' : g + 1 ≤ (s₁.setGen g gs').gens.size := hsz
          omega
        refine wpAny_pure ⟨plainId_quiet F.plain_any_loop _, ih (s₁.setGen g gs') hg1 hl1 ⟨gs', setGen_at hsz1, ?_⟩⟩
        exact hk _ (allBare_setGen (s := s₁.setGen g gs') (allBare_setGen hb1 hbare) rfl)
    · intro hsz
      exact wpAny_bind (wpAny_rule (wpAny_pure (hR false _ (hp.2 _ h' (allBare_setGen hp.1 rfl) hk))))
    · exact he.elim
/-- any(g) -/
theorem call_any_gen {P : Program} {w : World} {A : Around} {a : Addr} {g m : Nat} {Qt : Bool → Shared → Prop} {gs : GenState} {s : Shared} {Q : Value → Shared → Prop} {E : Value → Shared → Prop} (hh : A.handled = none) (hd : A.depth < recursionLimit)
    (hg : s.heap.IsGen a g) (hl : s.heap.NoLimit) (hgs : s.gens[g]? = some gs) (hgo : gs.Goes (model P w) A.in1.in1 (RB Qt) (YB a g Qt) m (.send .none) (s.setGen g .running))
    (hQ : ∀ b s', Qt b s' → Q (.bool b) s') : wpAny (model P w) A (call (.builtin "any") [.ref a]) Q E s := by
  refine call_function_tree F.kind_any F.plain_any F.entry_any (F.args_any1 _) ?_
  unfold Builtin.«any»
  refine wpAny_bind (m := oneArg "any" _) (wpAny_pure ?_)
  refine wpAny_bind (wpAny_pyIter_gen hg ?_)
  exact wpAny_pure ⟨plainId_quiet F.plain_any_loop _, any_drain hh hd (fun b s' h => hQ b s' h) m s hg hl ⟨gs, hgs, hgo⟩⟩
/-- a truth comes out: false ends all; behind true the generator goes on -/
def YA (a : Addr) (g : Nat) (Qt : Bool → Shared → Prop) : Protocol := fun n s₀ v s1 kap =>
  s1.heap.IsGen a g ∧ s1.heap.NoLimit ∧ AllBare s1.gens ∧ ((v = .bool false ∧ ∀ G : Array GenState, AllBare G → Qt false { s1 with gens := G }) ∨ (v = .bool true ∧ ∀ G : Array GenState, AllBare G → kap (.send .none) { s1 with gens := G }))
def FA (Qt : Bool → Shared → Prop) : Nat → Shared → Shared → Prop := fun _ _ s1 => AllBare s1.gens ∧ ∀ (G : Array GenState) (h' : Heap), AllBare G → (∀ b o, s1.heap.get? b = some o → h'.get? b = some o) → Qt true { s1 with gens := G, heap := h' }
def RA (Qt : Bool → Shared → Prop) : GenEnd := fun n s₀ r s1 => ((r = .ok (.ret .none) ∨ r = .ok .next) ∧ FA Qt n s₀ s1) ∨ ∃ e, r = .error e ∧ False
theorem all_drain {P : Program} {w : World} {A : Around} {R : Result → Shared → Prop} {a : Addr} {g : Nat} {Qt : Bool → Shared → Prop} (hh : A.handled = none) (hd : A.depth < recursionLimit)
    (hR : ∀ b s', Qt b s' → R (.ok (.ret (.bool b))) s') : ∀ (m : Nat) (s : Shared), s.heap.IsGen a g → s.heap.NoLimit →
      (∃ gs, s.gens[g]? = some gs ∧ gs.Goes (model P w) A.in1.in1 (RA Qt) (YA a g Qt) m (.send .none) (s.setGen g .running)) →
      codeAny (model P w) A (.builtin "all.loop" ⟨[.ref a], []⟩) R s := by
  have goes : ∀ {gs : GenState} {B : Around} {n : Nat} {r : Resume} {s : Shared}, gs.Goes (model P w) B (RA Qt) (YA a g Qt) n r s →
      gs.Goes (model P w) B (fun n s₀ r s1 => ((r = .ok (.ret .none) ∨ r = .ok .next) ∧ FA Qt n s₀ s1) ∨ ∃ e, r = .error e ∧ (fun _ _ => False) e s1) (YA a g Qt) n r s := fun h => h
  intro m
  induction m with
  | zero =>
    intro s hg hl ⟨gs, hgs, hgo⟩
    refine codeAny_builtin F.entry_all_loop ?_
    rw [Around.under_plainId F.plain_all_loop _]
    show wpAny _ A.in1 (pyNext (.ref a) >>= _) _ _ s
    refine wpAny_bind (next_genG (A := A.in1) hh hl hd hg hgs (goes hgo) (fun v s₁ gs' hbare hv => ?_) (fun s₁ hp h' hk => ?_) fun e s₁ he => ?_)
    · obtain ⟨hg1, hl1, hb1, h1 | h1⟩ := hv
      · obtain ⟨rfl, hq⟩ := h1
        refine wpAny_bind (wpAny_holding (wpAny_truthy_bool (wpAny_bind (wpAny_letGo ?_))))
        simp only [Bool.false_eq_true, if_false]
        exact wpAny_bind (wpAny_rule (wpAny_pure (hR false _ (hq _ (allBare_setGen hb1 hbare)))))
      · exact (h1.2 #[] (fun y hy => absurd hy (by simp))).elim
    · exact wpAny_bind (wpAny_rule (wpAny_pure (hR true _ (hp.2 _ h' (allBare_setGen hp.1 rfl) hk))))
    · exact he.elim
  | succ m ih =>
    intro s hg hl ⟨gs, hgs, hgo⟩
    have hgl : g < s.gens.size := (Array.getElem?_eq_some_iff.mp hgs).1
    refine codeAny_builtin F.entry_all_loop ?_
    rw [Around.under_plainId F.plain_all_loop _]
    show wpAny _ A.in1 (pyNext (.ref a) >>= _) _ _ s
    refine wpAny_bind (wpAny_gsz (n := g + 1) hgl (next_genG (A := A.in1) hh hl hd hg hgs (goes hgo) (fun v s₁ gs' hbare hv => ?_) (fun s₁ hp h' hk => ?_) fun e s₁ he => ?_))
    · intro hsz
      obtain ⟨hg1, hl1, hb1, h1 | h1⟩ := hv
      · obtain ⟨rfl, hq⟩ := h1
        refine wpAny_bind (wpAny_holding (wpAny_truthy_bool (wpAny_bind (wpAny_letGo ?_))))
        simp only [Bool.false_eq_true, if_false]
        exact wpAny_bind (wpAny_rule (wpAny_pure (hR false _ (hq _ (allBare_setGen hb1 hbare)))))
      · obtain ⟨rfl, hk⟩ := h1
        refine wpAny_bind (wpAny_holding (wpAny_truthy_bool (wpAny_bind (wpAny_letGo ?_))))
        simp only [if_true]
        have hsz1 : g < s₁.gens.size := by
          have q : (s₁.setGen g gs').gens.size = s₁.gens.size := setGen_size _ _ _
          have hsz' : g + 1 ≤ (s₁.setGen g gs').gens.size := hsz
          omega
        refine wpAny_pure ⟨plainId_quiet F.plain_all_loop _, ih (s₁.setGen g gs') hg1 hl1 ⟨gs', setGen_at hsz1, ?_⟩⟩
        exact hk _ (allBare_setGen (s := s₁.setGen g gs') (allBare_setGen hb1 hbare) rfl)
    · intro hsz
      exact wpAny_bind (wpAny_rule (wpAny_pure (hR true _ (hp.2 _ h' (allBare_setGen hp.1 rfl) hk))))
    · exact he.elim
/-- all(g) -/
theorem call_all_gen {P : Program} {w : World} {A : Around} {a : Addr} {g m : Nat} {Qt : Bool → Shared → Prop} {gs : GenState} {s : Shared} {Q : Value → Shared → Prop} {E : Value → Shared → Prop} (hh : A.handled = none) (hd : A.depth < recursionLimit)
    (hg : s.heap.IsGen a g) (hl : s.heap.NoLimit) (hgs : s.gens[g]? = some gs) (hgo : gs.Goes (model P w) A.in1.in1 (RA Qt) (YA a g Qt) m (.send .none) (s.setGen g .running))
    (hQ : ∀ b s', Qt b s' → Q (.bool b) s') : wpAny (model P w) A (call (.builtin "all") [.ref a]) Q E s := by
  refine call_function_tree F.kind_all F.plain_all F.entry_all (F.args_all1 _) ?_
  unfold Builtin.«all»
  refine wpAny_bind (m := oneArg "all" _) (wpAny_pure ?_)
  refine wpAny_bind (wpAny_pyIter_gen hg ?_)
  exact wpAny_pure ⟨plainId_quiet F.plain_all_loop _, all_drain hh hd (fun b s' h => hQ b s' h) m s hg hl ⟨gs, hgs, hgo⟩⟩
end Mz

set_option Elab.async false
set_option linter.all false
set_option maxRecDepth 100000
set_option maxHeartbeats 4000000
/-! a generator expression's own code, its element anything: an invariant J goes from turn to turn -/
namespace Mz
open PySem PySem.Spec PyProof.Rows L2 GenW
section
variable {prog : Program} {w : World} {A : Around}
theorem seg_genI {elt iter tg : Expr} {scope : Scope} {pos : Pos} {I : Addr} {n₀ : Nat} {cenv : Env} {R : GenEnd} {Y : Protocol}
    (J : Nat → Shared → Prop) (YY : Nat → Value → Shared → Prop) (D : Shared → Prop) (hco : cenv.scope.isCoroutine = false)
    (done : ∀ s, J n₀ s → wpAny (model prog w) (A.over (.compLoop (.GeneratorExp elt [⟨tg, iter, [], 0⟩] scope pos) 0 (.ref I) .none cenv) []) (pyNext (.ref I)) (fun r s' => r = none ∧ D s') (fun _ _ => False) s)
    (item : ∀ i s, i < n₀ → J i s → wpAny (model prog w) (A.over (.compLoop (.GeneratorExp elt [⟨tg, iter, [], 0⟩] scope pos) 0 (.ref I) .none cenv) []) (pyNext (.ref I)) (fun r s0 => ∃ v, r = some v ∧ wpAny (model prog w) (A.over (.compLoop (.GeneratorExp elt [⟨tg, iter, [], 0⟩] scope pos) 0 (.ref I) .none cenv) []) (letOwnedTupleGo tg (.ref I) v) (fun _ s1 =>
      wpAny (model prog w) (A.over (.compLoop (.GeneratorExp elt [⟨tg, iter, [], 0⟩] scope pos) 0 (.ref I) .none cenv) []) (assign tg cenv v) (fun _ s2 =>
        wpAny (model prog w) (A.over (.compLoop (.GeneratorExp elt [⟨tg, iter, [], 0⟩] scope pos) 0 (.ref I) .none cenv) []) (eval elt cenv) (fun y s3 => YY i y s3) (fun _ _ => False) s2) (fun _ _ => False) s1) (fun _ _ => False) s0) (fun _ _ => False) s)
    (hR : ∀ n s₀ s, D s → R n s₀ (.ok .next) s)
    (hY : ∀ n s₀ i y s, i < n₀ → YY i y s → ∀ kap : Resume → Shared → Prop, (∀ s'', J (i + 1) s'' → kap (.send .none) s'') → Y n s₀ y s kap) :
    ∀ (k i : Nat) (s₀ s : Shared), n₀ - i = k → i ≤ n₀ → J i s →
      Seg (model prog w) A R Y k s₀
        (.compLoop (.GeneratorExp elt [⟨tg, iter, [], 0⟩] scope pos) 0 (.ref I) .none cenv)
        ((model prog w).den (.compLoop (.GeneratorExp elt [⟨tg, iter, [], 0⟩] scope pos) 0 (.ref I) .none cenv)) [] s := by
  intro k
  induction k with
  | zero =>
    intro i s₀ s hk hi hJ
    have hin : i = n₀ := by omega
    subst hin
    show Seg _ A _ _ _ s₀ _ ((compTurn (.GeneratorExp elt [⟨tg, iter, [], 0⟩] scope pos) 0 (.ref I) .none cenv).onRaise (leaving cenv)) [] s
    rw [compTurn_gen, Sem.onRaise_eq_wrap]
    refine seg_bind_wrap (wpAny_standAt ?_)
    refine seg_bind_wrap (wpAny_mono (done s hJ) (fun r s' h' => ?_) fun _ _ e => e.elim)
    obtain ⟨rfl, hD⟩ := h'
    exact seg_end (.ok .next) (hR _ _ _ hD)
  | succ k ih =>
    intro i s₀ s hk hi hJ
    have hlt : i < n₀ := by omega
    show Seg _ A _ _ _ s₀ _ ((compTurn (.GeneratorExp elt [⟨tg, iter, [], 0⟩] scope pos) 0 (.ref I) .none cenv).onRaise (leaving cenv)) [] s
    rw [compTurn_gen, Sem.onRaise_eq_wrap]
    refine seg_bind_wrap (wpAny_standAt ?_)
    refine seg_bind_wrap (wpAny_mono (item i s hlt hJ) (fun r s1 h1 => ?_) fun _ _ e => e.elim)
    obtain ⟨v, rfl, h1⟩ := h1
    refine seg_bind_wrap (wpAny_mono h1 (fun _ s1' h1 => ?_) fun _ _ e => e.elim)
    refine seg_bind_wrap (wpAny_mono h1 (fun _ s2 h2 => ?_) fun _ _ e => e.elim)
    refine seg_bind_wrap (wpAny_of_eq (a := true) (by simp only [List.forIn_nil]) ?_)
    simp only [if_true]
    have hy : ∀ v, yieldOut cenv v = yieldValue v := fun v => by simp only [yieldOut, hco, Bool.false_eq_true, if_false]
    simp only [hy]
    rw [Sem.bind_eq_wrap', Sem.bind_eq_wrap', Sem.wrap_wrap, Sem.wrap_wrap]
    refine seg_wrap (wpAny_mono h2 (fun y s3 h3 => ?_) fun _ _ e => e.elim)
    refine seg_at (seg_yield rfl rfl rfl (hY _ _ i y s3 hlt h3 _ fun s'' hJ' => ?_))
    exact seg_again rfl (ih (i + 1) s'' s'' (by omega) hlt hJ')

theorem seg_genStartI {elt iter tg : Expr} {scope : Scope} {pos : Pos} {I : Addr} {n₀ : Nat} {cenv : Env} {R : GenEnd} {Y : Protocol}
    (J : Nat → Shared → Prop) (YY : Nat → Value → Shared → Prop) (D : Shared → Prop) (hco : cenv.scope.isCoroutine = false)
    (done : ∀ s, J n₀ s → wpAny (model prog w) (A.over (.compLoop (.GeneratorExp elt [⟨tg, iter, [], 0⟩] scope pos) 0 (.ref I) .none cenv) []) (pyNext (.ref I)) (fun r s' => r = none ∧ D s') (fun _ _ => False) s)
    (item : ∀ i s, i < n₀ → J i s → wpAny (model prog w) (A.over (.compLoop (.GeneratorExp elt [⟨tg, iter, [], 0⟩] scope pos) 0 (.ref I) .none cenv) []) (pyNext (.ref I)) (fun r s0 => ∃ v, r = some v ∧ wpAny (model prog w) (A.over (.compLoop (.GeneratorExp elt [⟨tg, iter, [], 0⟩] scope pos) 0 (.ref I) .none cenv) []) (letOwnedTupleGo tg (.ref I) v) (fun _ s1 =>
      wpAny (model prog w) (A.over (.compLoop (.GeneratorExp elt [⟨tg, iter, [], 0⟩] scope pos) 0 (.ref I) .none cenv) []) (assign tg cenv v) (fun _ s2 =>
        wpAny (model prog w) (A.over (.compLoop (.GeneratorExp elt [⟨tg, iter, [], 0⟩] scope pos) 0 (.ref I) .none cenv) []) (eval elt cenv) (fun y s3 => YY i y s3) (fun _ _ => False) s2) (fun _ _ => False) s1) (fun _ _ => False) s0) (fun _ _ => False) s)
    (self : ∀ s, J 0 s → ∀ (Q : Value → Shared → Prop) (E : Value → Shared → Prop), Q (.ref I) s → wpAny (model prog w) (A.over (.compStart (.GeneratorExp elt [⟨tg, iter, [], 0⟩] scope pos) 0 (.ref I) .none cenv) []) (pyIter (.ref I)) Q E s)
    (hR : ∀ n s₀ s, D s → R n s₀ (.ok .next) s)
    (hY : ∀ n s₀ i y s, i < n₀ → YY i y s → ∀ kap : Resume → Shared → Prop, (∀ s'', J (i + 1) s'' → kap (.send .none) s'') → Y n s₀ y s kap)
    (s₀ s : Shared) (hJ : J 0 s) :
    Seg (model prog w) A R Y n₀ s₀
      (.compStart (.GeneratorExp elt [⟨tg, iter, [], 0⟩] scope pos) 0 (.ref I) .none cenv)
      ((model prog w).den (.compStart (.GeneratorExp elt [⟨tg, iter, [], 0⟩] scope pos) 0 (.ref I) .none cenv)) [] s := by
  have loop := seg_genI J YY D hco done item hR hY n₀ 0 s₀ s (Nat.sub_zero _) (Nat.zero_le _) hJ
  show Seg _ A _ _ _ s₀ _ ((compStart (.GeneratorExp elt [⟨tg, iter, [], 0⟩] scope pos) 0 (.ref I) .none cenv).onRaise (leaving cenv)) [] s
  unfold compStart
  rw [Sem.onRaise_eq_wrap]
  show Seg _ A _ _ _ s₀ _ ((ask >>= _).wrap _ _ _ _) [] s
  refine seg_bind_wrap (wpAny_askSetting ?_)
  split
  · exact seg_again rfl loop
  · first
      | exact seg_bind_wrap (wpAny_rule (seg_bind_wrap (wpAny_standAt (seg_bind_wrap (self s hJ _ _ (seg_again rfl loop))))))
      | (refine seg_bind_wrap (wpAny_rule ?_); show Seg _ A _ _ _ s₀ _ ((standAt iter.pos >>= _).wrap _ _ _ _) [] s; exact seg_bind_wrap (wpAny_standAt (seg_bind_wrap (self s hJ _ _ (seg_again rfl loop)))))
end
end Mz

set_option Elab.async false
set_option linter.all false
set_option maxRecDepth 100000
set_option maxHeartbeats 4000000
/-! the context of a generator expression's own scope -/
namespace Mz
open PySem PySem.Spec PyProof.Rows L2 GenW
/-- the generator expression's scope: «.0», its name x, captured names -/
structure GenF (sc scope : Scope) (x : Str) : Prop where
  kind : scope.kind = .function
  co : scope.isCoroutine = false
  cell : ∀ y ∈ scope.names, y.2 ≠ .cell
  dot : scope.names.lookup (".0" : Str) = some NameKind.local
  loc : scope.names.lookup x = some .local
  free : ∀ y ∈ scope.names, y.2 = .free → sc.names.lookup y.1 = some .cell ∨ sc.names.lookup y.1 = some .free
theorem GenF.has {X : Cx} {scope : Scope} {x : Str} (L : GenF X.env.scope scope x) (ok : X.Ok) : ∀ y ∈ scope.names, y.2 = .free → ∃ c, X.env.cells.lookup y.1 = some c := fun y hy e => by
  rcases L.free y hy e with k | k
  · exact ok.has _ (.inl k)
  · exact ok.has _ (.inr k)
abbrev gEnv (X : Cx) (scope : Scope) (C : Addr) (code : Value) : Env := genEnv scope (cloFrom X.env.cells scope.names []) C code builtinsNs X.env
/-- the context of its element, made at s -/
def genCx (X : Cx) (A : Around) (scope : Scope) (s : Shared) (H : Hp) (code : Value) (N' : List Str) (fp : List Addr) : Cx where
  prog := X.prog
  w := X.w
  K := X.K
  mg := X.mg
  base := X.base
  A := A
  N := N'
  s_0 := s
  H_0 := H
  env := gEnv X scope s.heap.objs.size code
  outer := X.stack
  stack := gEnv X scope s.heap.objs.size code :: X.stack
  ex := fp
  fn := fun _ => false
  calm := true
  pn := []
  xe := fun _ _ => False
section
variable {X : Cx} {pins : List (Addr × Obj)} {σ : L2.St} {H : Hp} {s s5 : Shared}
theorem gen_start {A : Around} {scope : Scope} {x : Str} {code it : Value} {N' : List Str} {fp : List Addr} {σ' : L2.St} (hfp : ∀ b ∈ fp, FpOk X pins H b ∧ b < s.heap.objs.size) (I : Inv X pins σ H s) (L : GenF X.env.scope scope x) (hd : A.handled = none) (hfr : A.frames = some (gEnv X scope s.heap.objs.size code :: X.stack))
    (hl : σ'.length = N'.length) (hσ : ∀ (i : Nat) (y : Str) (v : V), N'[i]? = some y → σ'[i]? = some (some v) → (scope.names.lookup y = some .local → False) ∧ (scope.names.lookup y = some .free → ∃ j : Nat, X.N[j]? = some y ∧ σ[j]? = some (some v)))
    (hns : s5.heap.Ns s.heap.objs.size fun y => if y = ".0" then some it else none) (kp : ∀ b o, s.heap.get? b = some o → s5.heap.get? b = some o) (hos : s5.os = s.os) (hb : AllBare s5.gens) :
    Inv (genCx X A scope s H code N' fp) [] σ' H s5 := by
  have hfree := L.has I.ok
  have e0 := I.env0
  have cm : ∀ {y c}, (cloFrom X.env.cells scope.names []).lookup y = some c → X.env.cells.lookup y = some c := fun {y c} e => by
    rcases cloFrom_mem (PySem.mem_of_lookup e) with hm | ⟨h1, h2⟩
    · cases hm
    · obtain ⟨c1, hc⟩ := hfree _ h1 rfl
      have hc : X.env.cells.lookup y = some c1 := hc
      have e2 : c = c1 := by
        rw [h2, hc] <;> rfl
      rw [e2]
      exact hc
  have look : ∀ {y}, scope.names.lookup y = some .free → ∃ c, (cloFrom X.env.cells scope.names []).lookup y = some c := fun {y} hl => by
    have hy : (y, NameKind.free) ∈ scope.names := PySem.mem_of_lookup hl
    exact mem_lookup (cloFrom_has (cells := X.env.cells) (acc := []) hy)
  have cellK : ∀ {c : Addr} {v : Option Value}, s.heap.IsCell c v → s5.heap.IsCell c v := fun {c v} ⟨o, ho, hd⟩ => ⟨_, kp _ _ ho, hd⟩
  refine ⟨⟨e0.mod, L.kind, I.ok.glob, rfl, Nat.le_refl _, fun y z c e1 e2 => I.ok.inj y z c (cm e1) (cm e2), fun y hy => ?_, fun y c z _ => ?_, fun _ => hd, hfr, .inr ⟨rfl, rfl⟩, fun b z => ?_, e0.bs, e0.bsz, fun b o e z => ?_,
      fun b z hm => ?_, e0.funs, e0.frf⟩,
    hos, hb, Un.kept kp, ⟨_, hns, fun i y v e1 e2 e3 => ?_⟩, fun y c e => ?_, I.hok.fresh (Nat.le_refl _), fun y c e => ?_, fun q hq => absurd (show q ∈ ([] : List (Addr × Obj)) ++ [] from hq) (by simp), I.hok.kept kp, hl⟩
  · have hy : scope.names.lookup y = some .cell ∨ scope.names.lookup y = some .free := hy
    rcases hy with hy | hy
    · exact absurd rfl (L.cell _ (PySem.mem_of_lookup hy))
    · exact look hy
  · have z : false = true := z
    cases z
  · obtain ⟨f, hlt⟩ := hfp b z
    exact ⟨Nat.ne_of_lt hlt, fun y c e => f.2.2.2.2.1 y c (cm e)⟩
  · obtain ⟨⟨_, _, _, f3, _⟩, _⟩ := hfp b z
    rcases f3 with f3 | f3
    · exact I.ok.noex b o e f3
    · exact absurd (Nat.lt_of_lt_of_le (Heap.lt_size e) I.ok.bsz) (Nat.not_lt.mpr f3)
  · obtain ⟨⟨_, f1, f2, _⟩, _⟩ := hfp b z
    rcases List.mem_cons.mp (I.stkSub b hm) with q | q
    · exact f1 q
    · exact f2 q
  · have e3 : Vis scope y := e3
    rcases e3 with k | k | k
    · exact ((hσ i y v e1 e2).1 k).elim
    · exact absurd rfl (L.cell _ (PySem.mem_of_lookup k))
    · obtain ⟨j, f1, f2⟩ := (hσ i y v e1 e2).2 k
      obtain ⟨m, hn, hl⟩ := I.loc
      have hvis : Vis X.env.scope y := (L.free _ (PySem.mem_of_lookup k) rfl).elim (fun k => .inr (.inl k)) (fun k => .inr (.inr k))
      obtain ⟨w', r, q⟩ := hl j y v f1 f2 hvis
      obtain ⟨c2, h2⟩ := look k
      refine ⟨w', r, .inr ⟨.inr k, c2, h2, ?_⟩⟩
      have c1 := cm h2
      rcases q with ⟨k', _⟩ | ⟨_, c3, e', z⟩
      · have k' : X.env.scope.names.lookup y = some .local := k'
        rcases L.free _ (PySem.mem_of_lookup k) rfl with k2 | k2 <;> rw [show X.env.scope.names.lookup y = _ from k2] at k' <;> cases k'
      · have e4 : some c2 = some c3 := c1.symm.trans e'
        cases e4
        exact cellK z
  · obtain ⟨v, q⟩ := I.cell y c (cm e)
    exact ⟨v, cellK q⟩
  · exact I.freeC y c (cm e)
end
end Mz

set_option Elab.async false
set_option linter.all false
set_option maxRecDepth 100000
set_option maxHeartbeats 4000000
/-! any(elt for tg in iter), the element anything -/
namespace Mz
open PySem PySem.Spec PyProof.Rows L2 GenW GxR
section
variable {X : Cx} {pins : List (Addr × Obj)} {σ : L2.St} {H : Hp} {s s5 : Shared}
theorem any_run {elt iter tg : Expr} {scope : Scope} {x : Str} {gpos : Pos} {code itv : Value} {N' : List Str} {fp : List Addr} {σ' : L2.St} {a it : Addr} {g k n₀ : Nat} {tn : Nat → Heap → Prop} {J : It} {gt : TG} {te : TE} {W : Nat → L2.St → Hp → Prop} {Q : VK} {E : Value → Shared → Prop}
    (hr : Room (k + 3) X.A) (I : Inv X pins σ H s) (L : GenF X.env.scope scope x) (T : Turn X.prog X.w X.K tg J fp it tn) (st : tn 0 s.heap) (f2 : ∀ b ∈ fp, FpOk X pins H b)
    (hl : σ'.length = N'.length) (hσ : ∀ (i : Nat) (y : Str) (v : V), N'[i]? = some y → σ'[i]? = some (some v) → (scope.names.lookup y = some .local → False) ∧ (scope.names.lookup y = some .free → ∃ j : Nat, X.N[j]? = some y ∧ σ[j]? = some (some v)))
    (hns : s5.heap.Ns s.heap.objs.size fun y => if y = ".0" then some itv else none) (kp : ∀ b o, s.heap.get? b = some o → s5.heap.get? b = some o) (hos : s5.os = s.os) (hb : AllBare s5.gens)
    (ha : s.heap.objs.size < a) (hg : s5.heap.IsGen a g) (hgs : s5.gens[g]? = some (.fresh (.compStart (.GeneratorExp elt [⟨tg, iter, [], 0⟩] scope gpos) 0 (.ref it) .none (gEnv X scope s.heap.objs.size code))))
    (hel : ∀ A : Around, Room k A → A.frames = some (gEnv X scope s.heap.objs.size code :: X.stack) → PG (genCx X A scope s H code N' fp) tg gt ∧ PE (genCx X A scope s H code N' fp) elt te)
    (w0 : W 0 σ' H) (turn : ∀ i σ1 H1, i < n₀ → W i σ1 H1 → J.go i H1 ∧ ∀ v H2, J.yld i H1 v H2 → gt v σ1 H2 fun σ2 H3 => te σ2 H3 fun r H4 => ∃ b, r = .bl b ∧ (b = true → Q (.bl true) H4) ∧ (b = false → W (i + 1) σ2 H4))
    (stop : ∀ σ1 H1, W n₀ σ1 H1 → J.stop n₀ H1 ∧ Q (.bl false) H1) :
    wpAny (model X.prog X.w) X.A (call (.builtin "any") [.ref a]) (EP X pins σ Q) E s5 := by
  obtain ⟨go, nm, qn, ho, hc, hdd, hsl⟩ := id hg
  have hrl : Room k (X.A.in1.in1.over (.compLoop (.GeneratorExp elt [⟨tg, iter, [], 0⟩] scope gpos) 0 (.ref it) .none (gEnv X scope s.heap.objs.size code)) []) :=
    ⟨hr.hd, by have := hr.dp; show X.A.depth + 1 + 3 * k + 5 < _; omega, by have := hr.un; show X.A.units + 1 + 1 + 3 + 16 * k + 200 < _; omega⟩
  have hfl : (X.A.in1.in1.over (.compLoop (.GeneratorExp elt [⟨tg, iter, [], 0⟩] scope gpos) 0 (.ref it) .none (gEnv X scope s.heap.objs.size code)) []).frames = some (gEnv X scope s.heap.objs.size code :: X.stack) := by
    show pushEnvs [gEnv X scope s.heap.objs.size code] X.A.frames = _
    rw [I.ok.frames]
    rfl
  obtain ⟨hpg, hpe⟩ := hel _ hrl hfl
  have hlt : ∀ b ∈ fp, b < s.heap.objs.size := fun b hb => by
    obtain ⟨o, e, _⟩ := T.obj _ _ st b hb
    exact Heap.lt_size e
  have I0 := gen_start (N' := N') (fp := fp) (σ' := σ') (it := itv) (code := code) (fun b hb => ⟨f2 b hb, hlt b hb⟩) I L hrl.hd hfl hl hσ hns kp hos hb
  have I5 := I0.pins_of (pins' := [(a, go)]) fun p hp => by
    rw [List.mem_singleton.mp hp]
    refine ⟨ho, I.hok.fresh (Nat.le_of_lt ha), Nat.ne_of_gt ha, fun hm => ?_, fun v q => by rw [show go.data = _ from hdd] at q; cases q⟩
    rcases List.mem_cons.mp (I.stkSub a hm) with q | q
    · have h1 := I.lt
      rw [← q] at h1
      exact Nat.lt_irrefl _ (Nat.lt_trans h1 ha)
    · exact I.nofs (Nat.le_of_lt ha) q
  have stat : ∀ {H1 : Hp}, (∀ b ∈ fp, H1 b = none) → ∀ b ∈ fp, FpOk (genCx X (X.A.in1.in1.over (.compLoop (.GeneratorExp elt [⟨tg, iter, [], 0⟩] scope gpos) 0 (.ref it) .none (gEnv X scope s.heap.objs.size code)) []) scope s H code N' fp) [(a, go)] H1 b :=
    fun {H1} hn b hb => ⟨hn b hb, (I0.ok.exf b hb).1, I0.ok.exfs b hb, .inl hb, (I0.ok.exf b hb).2, fun p hp => by
      have hp : p ∈ ([] : List (Addr × Obj)) ++ [(a, go)] := hp
      rw [List.nil_append, List.mem_singleton] at hp
      rw [hp]
      exact Nat.ne_of_gt (Nat.lt_trans (hlt b hb) ha)⟩
  have regen : ∀ {σ1 : L2.St} {H1 : Hp} {s' : Shared} (G : Array GenState), AllBare G → Inv (genCx X (X.A.in1.in1.over (.compLoop (.GeneratorExp elt [⟨tg, iter, [], 0⟩] scope gpos) 0 (.ref it) .none (gEnv X scope s.heap.objs.size code)) []) scope s H code N' fp) [(a, go)] σ1 H1 s' →
      Inv (genCx X (X.A.in1.in1.over (.compLoop (.GeneratorExp elt [⟨tg, iter, [], 0⟩] scope gpos) 0 (.ref it) .none (gEnv X scope s.heap.objs.size code)) []) scope s H code N' fp) [(a, go)] σ1 H1 { s' with gens := G } :=
    fun {σ1 H1 s'} G hG K => K.call' (ch := []) (s' := { s' with gens := G }) rfl Un.refl K.hok hG fun b z => absurd z (by simp)
  have back : ∀ {σ1 : L2.St} {H1 : Hp} {s' : Shared} (G : Array GenState) (h' : Heap), AllBare G → (∀ b o, s'.heap.get? b = some o → h'.get? b = some o) → Inv (genCx X (X.A.in1.in1.over (.compLoop (.GeneratorExp elt [⟨tg, iter, [], 0⟩] scope gpos) 0 (.ref it) .none (gEnv X scope s.heap.objs.size code)) []) scope s H code N' fp) [(a, go)] σ1 H1 s' →
      Inv X pins σ H1 { s' with gens := G, heap := h' } := fun {σ1 H1 s'} G h' hG hk K =>
    I.call' (ch := fp) (s' := { s' with gens := G, heap := h' }) K.os (Un.trans K.base (Un.kept hk)) (K.hok.kept hk) hG fun b hb => ⟨(f2 b hb).2.2.2.1, (f2 b hb).2.1, (f2 b hb).2.2.2.2.1, (f2 b hb).2.2.2.2.2⟩
  have gen : ∀ {σ1 : L2.St} {H1 : Hp} {s' : Shared}, Inv (genCx X (X.A.in1.in1.over (.compLoop (.GeneratorExp elt [⟨tg, iter, [], 0⟩] scope gpos) 0 (.ref it) .none (gEnv X scope s.heap.objs.size code)) []) scope s H code N' fp) [(a, go)] σ1 H1 s' → s'.heap.IsGen a g :=
    fun {σ1 H1 s'} K => ⟨go, nm, qn, (K.pin (a, go) (List.mem_append_right _ (List.mem_singleton.mpr rfl))).1, hc, hdd, hsl⟩
  refine call_any_gen (m := n₀) (Qt := fun b s' => EP X pins σ Q (.bool b) s') hr.hd hr.depth hg I0.nolimit hgs ⟨rfl, ?_⟩ (fun b s' h => h)
  refine seg_genStartI (n₀ := n₀)
    (fun i s' => ∃ σ1 H1, Inv (genCx X (X.A.in1.in1.over (.compLoop (.GeneratorExp elt [⟨tg, iter, [], 0⟩] scope gpos) 0 (.ref it) .none (gEnv X scope s.heap.objs.size code)) []) scope s H code N' fp) [(a, go)] σ1 H1 s' ∧ tn i s'.heap ∧ (∀ b ∈ fp, H1 b = none) ∧ W i σ1 H1)
    (fun i y s' => ∃ σ1 H1 b, y = .bool b ∧ Inv (genCx X (X.A.in1.in1.over (.compLoop (.GeneratorExp elt [⟨tg, iter, [], 0⟩] scope gpos) 0 (.ref it) .none (gEnv X scope s.heap.objs.size code)) []) scope s H code N' fp) [(a, go)] σ1 H1 s' ∧ tn (i + 1) s'.heap ∧ (∀ b ∈ fp, H1 b = none) ∧
      (b = true → Q (.bl true) H1) ∧ (b = false → W (i + 1) σ1 H1))
    (fun s' => ∃ σ1 H1, Inv (genCx X (X.A.in1.in1.over (.compLoop (.GeneratorExp elt [⟨tg, iter, [], 0⟩] scope gpos) 0 (.ref it) .none (gEnv X scope s.heap.objs.size code)) []) scope s H code N' fp) [(a, go)] σ1 H1 s' ∧ Q (.bl false) H1)
    L.co ?_ ?_ ?_ ?_ ?_ _ _ ?_
  · rintro s1 ⟨σ1, H1, K, t1, n1, w1⟩
    obtain ⟨q1, q2⟩ := stop σ1 H1 w1
    refine wpAny_mono (T.done (genCx X (X.A.in1.in1.over (.compLoop (.GeneratorExp elt [⟨tg, iter, [], 0⟩] scope gpos) 0 (.ref it) .none (gEnv X scope s.heap.objs.size code)) []) scope s H code N' fp) rfl rfl rfl rfl n₀ _ s1 σ1 H1 _ K (stat n1) t1 q1) (fun r s2 h2 => ?_) fun _ _ e => e
    exact ⟨h2.1, σ1, H1, h2.2, q2⟩
  · rintro i s1 hi ⟨σ1, H1, K, t1, n1, w1⟩
    obtain ⟨q1, q2⟩ := turn i σ1 H1 hi w1
    refine wpAny_mono (T.item (genCx X (X.A.in1.in1.over (.compLoop (.GeneratorExp elt [⟨tg, iter, [], 0⟩] scope gpos) 0 (.ref it) .none (gEnv X scope s.heap.objs.size code)) []) scope s H code N' fp) rfl rfl rfl rfl i _ s1 σ1 H1 _ K (stat n1) t1 q1) (fun r s2 h2 => ?_) fun _ _ e => e
    obtain ⟨u, hu, h2⟩ := h2
    refine ⟨u, hu, wpAny_mono h2 (fun _ s3 h3 => ?_) fun _ _ e => e⟩
    obtain ⟨v, H3, K3, r3, y3, t3, n3⟩ := h3
    have K3' := K3.pinned (stat n3) (T.obj _ _ t3)
    refine wpAny_mono (hpg.run _ s3 σ1 H3 v u _ K3' r3 (q2 v H3 y3)) (fun _ s4 h4 => ?_) fun _ _ e => e
    obtain ⟨σ4, H4, K4, q4⟩ := h4
    refine wpAny_mono (hpe.run _ s4 σ4 H4 _ K4 q4) (fun y s6 h6 => ?_) fun _ _ e => e
    obtain ⟨v6, H6, K6, r6, b, e6, q6⟩ := h6
    subst e6
    obtain rfl : y = .bool b := r6
    refine ⟨σ4, H6, b, rfl, K6.unpinned, T.keep _ _ _ t3 fun b hb o e => (K6.pin (b, o) (List.mem_append_right _ (List.mem_append_right _ (mem_pinsAt hb e)))).1, fun b hb => ?_, q6⟩
    obtain ⟨o, e, d⟩ := T.obj _ _ t3 b hb
    exact (K6.pin (b, o) (List.mem_append_right _ (List.mem_append_right _ (mem_pinsAt hb e)))).2.1
  · rintro s1 ⟨σ1, H1, K, t1, n1, w1⟩ Q' E' hq
    exact T.self _ 0 s1 Q' E' t1 hq
  · rintro n s₀ s1 ⟨σ1, H1, K, q⟩
    exact .inl ⟨.inr rfl, K.bare, fun G h' hG hk => ⟨.bl false, H1, back G h' hG hk K, rfl, q⟩⟩
  · rintro n s₀ i y s1 hi ⟨σ1, H1, b, rfl, K, t1, n1, q1, q2⟩ kap hk
    refine ⟨gen K, K.nolimit, K.bare, ?_⟩
    cases b with
    | true => exact .inl ⟨rfl, fun G hG => ⟨.bl true, H1, back G s1.heap hG (fun _ _ e => e) K, rfl, q1 rfl⟩⟩
    | false => exact .inr ⟨rfl, fun G hG => hk _ ⟨σ1, H1, regen G hG K, t1, n1, q2 rfl⟩⟩
  · refine ⟨σ', H, regen _ (allBare_setGen hb rfl) I5, T.keep _ _ _ st fun b hb o e => kp b o e, fun b hb => (f2 b hb).1, w0⟩
end
end Mz

set_option Elab.async false
set_option linter.all false
set_option maxRecDepth 100000
set_option maxHeartbeats 4000000
/-! any(elt for tg in iter): the expression -/
namespace Mz
open PySem PySem.Spec PyProof.Rows L2 GenW GxR
/-- J: what is walked; P: the def's table, it may have grown when the code object is made; W: the invariant by the turn -/
def tAnyG (P : Addr) (wipe : L2.St → L2.St) (wi : TI) (gt : TG) (te : TE) : TE := fun σ H Q => wi σ H fun J H1 => TabG H1 P ∧ ∀ H2, Tabbed P H1 H2 → ∃ (W : Nat → L2.St → Hp → Prop) (n₀ : Nat), W 0 (wipe σ) H2 ∧
  (∀ i σ1 H1, i < n₀ → W i σ1 H1 → J.go i H1 ∧ ∀ v H2, J.yld i H1 v H2 → gt v σ1 H2 fun σ2 H3 => te σ2 H3 fun r H4 => ∃ b, r = .bl b ∧ (b = true → Q (.bl true) H4) ∧ (b = false → W (i + 1) σ2 H4)) ∧
  ∀ σ1 H1, W n₀ σ1 H1 → J.stop n₀ H1 ∧ Q (.bl false) H1
section
variable {X : Cx}
theorem pe_anyG {c P : Addr} {elt iter tg : Expr} {scope : Scope} {x : Str} {p pos gpos : Pos} {k : Nat} {wi : TI} {gt : TG} {te : TE} (N' : List Str) (wipe : L2.St → L2.St)
    (hr : Room (k + 3) X.A) (hg : Gl X "any") (hm : X.mg "any" = none) (TB : TabB X.base X.mg c P) (hcode : X.env.code = .ref c) (L : GenF X.env.scope scope x) (hi : PI X tg iter wi)
    (hl : ∀ σ : L2.St, σ.length = X.N.length → (wipe σ).length = N'.length)
    (hσ : ∀ (σ : L2.St) (i : Nat) (y : Str) (v : V), N'[i]? = some y → (wipe σ)[i]? = some (some v) → (scope.names.lookup y = some .local → False) ∧ (scope.names.lookup y = some .free → ∃ j : Nat, X.N[j]? = some y ∧ σ[j]? = some (some v)))
    (hel : ∀ (A : Around) (s : Shared) (H : Hp) (code : Value) (fp : List Addr), Room k A → A.frames = some (gEnv X scope s.heap.objs.size code :: X.stack) → PG (genCx X A scope s H code N' fp) tg gt ∧ PE (genCx X A scope s H code N' fp) elt te)
    (hs : ∀ v, genFold iter X.env v = pure v)
    (he : starEach [.GeneratorExp elt [⟨tg, iter, [], 0⟩] scope gpos] X.env = (false, eval (.GeneratorExp elt [⟨tg, iter, [], 0⟩] scope gpos) X.env) :: starEach [] X.env := by rfl) :
    PE X (.Call (.Name "any" p) [.GeneratorExp elt [⟨tg, iter, [], 0⟩] scope gpos] [] pos) (tAnyG P wipe wi gt te) := by
  refine ⟨fun pins s σ H Q I h => ?_⟩
  refine wpAny_Call_Name_kw (ld_blt I hg hm boot_any ?_)
  refine PyProof.Rows.callWith_builtin1 ?_ he (by rfl)
  rw [he]
  show wpAny _ _ (spliced ((false, eval (.GeneratorExp elt [⟨tg, iter, [], 0⟩] scope gpos) X.env) :: backTo pos (starEach [] X.env))) _ _ s
  refine Calls.spliced_cons (wpAny_GeneratorExp_make L.co (closure_ok (L.has I.ok)) L.cell L.dot L.kind hr.depth (thn (hi.run pins s σ H _ I h) fun xv s1 h1 => thn h1 fun itv s2 h2 => ?_) hs)
  obtain ⟨it, fp, tn, J, H2, rfl, I2, T, st2, f2, ⟨ps, hP, ht⟩, hw⟩ := h2
  have hPs : s2.heap.get? P = some { cls := .none, data := .fields ps } := I2.hok P _ hP
  have hPlt : P < s2.heap.objs.size := Heap.lt_size hPs
  have cd : PySem.W.CodeHd s2.heap c P := TB.code.keeps fun b u e => I2.bk b u e
  have cont : ∀ (code : Value) (h3 : Heap) (tk : Nat) (ps' : Array Value), Heap.ExtBut P s2.heap h3 → s2.heap.objs.size ≤ h3.objs.size → h3.get? P = some { cls := .none, data := .fields ps' } → (∃ more, ps' = ps ++ more) → TriplesOk ps'.toList →
      wpAny (model X.prog X.w) X.A (builtinsFor X.env.globals X.env.builtins) (fun bi s₄ =>
        ∀ h', h'.Ns s₄.heap.objs.size (fun y => if y = ".0" then some (.ref it) else none) → Heap.SameBut s₄.heap.objs.size (s₄.heap.push { cls := .type "frame", data := .dict #[] }) h' →
          wpAny (model X.prog X.w) X.A (spliced (backTo pos (starEach [] X.env))) (fun vs s' => wpAny (model X.prog X.w) X.A (call (.builtin "any") (.ref h'.objs.size :: vs)) (EP X pins σ Q) X.xe s') X.xe { s₄ with
            gens := s₄.gens.push (.fresh (.compStart (.GeneratorExp elt [⟨tg, iter, [], 0⟩] scope gpos) 0 (.ref it) .none (genEnv scope (cloFrom X.env.cells scope.names []) s₄.heap.objs.size code bi X.env))),
            toks := s₄.toks + 1 + 1 + 1,
            heap := h'.push { cls := .type "generator", data := .fields #[.int s₄.gens.size 0, .str "<genexpr>" (s₄.toks + 1), .str (X.env.qual ++ "<genexpr>") (s₄.toks + 1 + 1)] } }) X.xe { s2 with heap := h3, toks := tk } := by
    intro code h3 tk ps' hx hsz hP3 hmore ht3
    obtain ⟨bm, ob, e1, e2, e3, e4, e5, e6, e7, e8⟩ := TB.bm
    have keep3 : ∀ b u, b ≠ P → s2.heap.get? b = some u → h3.get? b = some u := fun b u hb e => hx b u hb e
    refine wpAny_builtinsFor (m := X.mg) (by rw [I2.ok.glob]; exact (I2.mod.glob.keeps I2.bk).extBut hx TB.gP) e1 e2 (keep3 _ _ e4 (I2.bk _ _ e5)) e6 e7 e8 ?_
    intro h' hn' hs'
    obtain ⟨more, em⟩ := hmore
    have J3 := inv_tab (more := more) (h' := h3) (g' := s2.gens) (d' := s2.drawn) (t' := tk) I2 hP keep3 (by rw [← em]; exact hP3) I2.bare
    have nP : ∀ b ∈ fp, b ≠ P := fun b hb z => by
      have q := (f2 b hb).1
      rw [z, hP] at q
      cases q
    have hsz' : h'.objs.size = h3.objs.size + 1 := by rw [hs'.1, Heap.size_push]
    have keep' : ∀ b o, h3.get? b = some o → h'.get? b = some o := fun b o e => hs'.extBut b o (Nat.ne_of_lt (Heap.lt_size e)) (Heap.get?_push_of_some _ e)
    obtain ⟨W, n₀, w0, turn, stop⟩ := hw (upd H2 P (.tbl (ps ++ more))) ⟨⟨ps ++ more, upd_same, by rw [← em]; exact ht3⟩, fun b hb => upd_ne hb⟩
    refine Calls.spliced_nil ?_
    refine any_run (s := { s2 with heap := h3, toks := tk }) (N' := N') (σ' := wipe σ) (itv := .ref it) (g := s2.gens.size) hr J3 L T (T.keep _ _ _ st2 fun b hb o e => keep3 b o (nP b hb) e) (fun b hb => ⟨by rw [upd_ne (nP b hb)]; exact (f2 b hb).1, (f2 b hb).2⟩)
      (hl σ I.len) (hσ σ) (hn'.push _) (fun b o e => Heap.get?_push_of_some _ (keep' b o e)) rfl (AllBare.push I2.bare rfl) (by show h3.objs.size < h'.objs.size; omega) ⟨_, _, _, Heap.get?_push_size _ rfl, rfl, rfl, rfl⟩ (Array.getElem?_push_size ..)
      (fun A hA hf => hel A _ _ code fp hA hf) w0 turn stop
  refine ⟨I2.nolimit, ?_⟩
  cases hf : codeAmong gpos ps.toList with
  | none =>
    refine wpAny_genexprCodeX hcode (cd.code hPs ht) (cd.tab hPs) hf fun c' h' tk hx hge hlt hco' _ htab' _ => ?_
    obtain ⟨o1, vs, f1, tf, fl, tg', inF, tx, tt, op, _, _, _, _, _, _, _, _, _, htr, _⟩ := hco'
    exact cont _ h' tk _ hx (Nat.le_trans hge (Nat.le_of_lt hlt)) htab'.2 ⟨_, rfl⟩ htr
  | some cv =>
    refine wpAny_genexprCode_hit hcode (cd.code hPs ht) hf ?_
    exact cont cv s2.heap s2.toks ps (Heap.ExtBut.refl _ _) (Nat.le_refl _) hPs ⟨#[], by simp⟩ ht
end
end Mz

set_option Elab.async false
set_option linter.all false
set_option maxRecDepth 100000
set_option maxHeartbeats 4000000
namespace K25
open PySem PySem.Spec PyProof.Rows L2 Mz
/-- of one kind -/
def KinB (M N : Mach) : Prop := M.ls = N.ls ∧ M.os = N.os
def spKin (A : Ads) : Sp := fun vs H Q E => ∃ (f s : Addr) (M N : Mach), vs = [.ref f, .ref s] ∧ MA H f M ∧ MA H s N ∧ (KinB M N → Q .non H) ∧ (¬ KinB M N → E (.ref A.a_NotAllowed) none H)
/-- all kept but two tables -/
structure K2 (P1 P2 : Addr) (H H' : Hp) : Prop where
  t1 : GxR.TabG H' P1
  t2 : GxR.TabG H' P2
  keep : ∀ b o, b ≠ P1 → b ≠ P2 → H b = some o → H' b = some o
/-- what are_told refuses -/
def BadW (M N : Mach) (W : List (List Int)) : Prop := ¬ KinB M N ∨ ∃ w ∈ W, fitB M.ls w = false
def spTold (A : Ads) (P1 P2 : Addr) : Sp := fun vs H Q E => ∃ (wp f s : Addr) (M N : Mach) (ts : List Addr) (W : List (List Int)), vs = [.ref wp, .ref f, .ref s] ∧ MA H f M ∧ MA H s N ∧ Good M ∧ Good N ∧ H wp = some (.lst (ts.map V.ref)) ∧ LL H ts W ∧ W.length ≤ 5000 ∧ (∀ w ∈ W, w.length ≤ 500) ∧ GxR.TabG H P1 ∧ GxR.TabG H P2 ∧
  (BadW M N W → ∀ H', K2 P1 P2 H H' → E (.ref A.a_NotAllowed) none H') ∧
  (¬ BadW M N W → ∀ H', K2 P1 P2 H H' → ∀ b : Bool, (b = true ↔ ∃ w ∈ W, outsA M 0 w ≠ outsA N 0 w) → Q (.bl b) H')
theorem K2.lst {P1 P2 : Addr} {H H' : Hp} (k : K2 P1 P2 H H') (t1 : GxR.TabG H P1) (t2 : GxR.TabG H P2) {a : Addr} {xs : List V} (h : H a = some (.lst xs)) : H' a = some (.lst xs) :=
  k.keep _ _ (tab_ne t1 h (fun ps z => by cases z)) (tab_ne t2 h (fun ps z => by cases z)) h
theorem K2.ll {P1 P2 : Addr} {H H' : Hp} (k : K2 P1 P2 H H') (t1 : GxR.TabG H P1) (t2 : GxR.TabG H P2) {ts : List Addr} {D : List (List Int)} (h : LL H ts D) : LL H' ts D := ⟨h.1, fun i a w p q => k.lst t1 t2 (h.2 i a w p q)⟩
/-- a def that errors leave, its code object known -/
theorem okNC {P : Program} {w : World} {K : PySem.W.Frag} {mg : Str → Option Value} {base : Heap} {x qual : Str} {st : Stmt} {f : Addr} {fd : FuncData} {N ps : List Str} {k : Nat} {sp : Sp} (F : Fun K x qual st f fd) (S : FnScope N ps (defScope st)) (len : ∀ vs H Q E, sp vs H Q E → vs.length = ps.length)
    (hbody : ∀ (A : Around) (outer : List Env) (s : Shared) (H : Hp) (vs : List V) (Q : VK) (E : XK), Room k (A.deeper (envOfC qual (defScope st) s.heap.objs.size f fd.code)) → sp vs H Q E →
      ∃ t, PSs (cxOf (L2N.CX P w) P w K mg base N qual (defScope st) f fd.code A outer s H E) (defBody st) t ∧ t { nx := fun _ H' => Q .non H', rt := Q } (start N vs) H) : FnOk P w K mg base (L2N.CX P w) (k + 1) f fd ps sp := by
  obtain ⟨oc, od, kV, doc, pm, an, cdv, ct, osl, rfl, lk, hcd⟩ := F.ex
  exact fn_of lk hcd S len fun A outer s H vs Q E hr hsp => hbody A outer s H vs Q E hr hsp
/-- the names inside: all but the wiped slot are as outside -/
theorem wipeOk {N : List Str} {scope : Scope} {j : Nat} (y0 : Str) (NN : List Str) (hN : N = NN) (hj : NN[j]? = some y0) (hl : ∀ i y, NN[i]? = some y → i ≠ j → scope.names.lookup y ≠ some .local) (_hd : True) :
    ∀ (σ : L2.St) (i : Nat) (y : Str) (v : V), NN[i]? = some y → (σ.set j none)[i]? = some (some v) → (scope.names.lookup y = some .local → False) ∧ (scope.names.lookup y = some .free → ∃ j : Nat, N[j]? = some y ∧ σ[j]? = some (some v)) := by
  intro σ i y v h1 h2
  have hij : i ≠ j := fun z => by
    subst z
    rw [List.getElem?_set] at h2
    simp only [if_true] at h2
    split at h2 <;> cases h2
  rw [List.getElem?_set_ne (Ne.symm hij)] at h2
  exact ⟨hl i y h1 hij, fun _ => ⟨i, by rw [hN]; exact h1, h2⟩⟩
theorem lookAll {NN : List Str} {scope : Scope} {j : Nat} (h : (NN.zipIdx.all fun p => p.2 == j || !decide (scope.names.lookup p.1 = some NameKind.local)) = true) : ∀ i y, NN[i]? = some y → i ≠ j → scope.names.lookup y ≠ some .local := by
  intro i y hi hij
  rw [List.all_eq_true] at h
  have hm : (y, i) ∈ NN.zipIdx := by
    rw [List.mem_zipIdx_iff_getElem?]
    exact hi
  have := h _ hm
  simp only [Bool.or_eq_true, beq_iff_eq, Bool.not_eq_true', decide_eq_false_iff_not] at this
  exact this.resolve_left hij
theorem ne_lsts {K : PySem.W.Frag} {H : Hp} {a b : Addr} {u v : List Int} {Q : VK} (h1 : H a = some (.lst (u.map V.int))) (h2 : H b = some (.lst (v.map V.int))) (q : Q (.bl (!decide (u = v))) H) : rNeD K (.ref a) (.ref b) H Q :=
  ⟨dLst u, dLst v, dp_l h1, dp_l h2, shaped_l _, shaped_l _, by rw [eqv_l]; exact q⟩
theorem K2.ma {P1 P2 : Addr} {H H' : Hp} (k : K2 P1 P2 H H') (h12 : P1 ≠ P2) (t1 : GxR.TabG H P1) (t2 : GxR.TabG H P2) {m : Addr} {M : Mach} (h : MA H m M) : MA H' m M := by
  have e : ∀ b, b ≠ P1 → (fun b => if b = P1 then H' P1 else H b) b = H b := fun b hb => if_neg hb
  have e1 : (fun b => if b = P1 then H' P1 else H b) P1 = H' P1 := if_pos rfl
  have k1 : Kp P1 H (fun b => if b = P1 then H' P1 else H b) := ⟨by obtain ⟨ps, q, r⟩ := k.t1; exact ⟨ps, e1.trans q, r⟩, fun b o hb q => (e b hb).trans q⟩
  have k2 : Kp P2 (fun b => if b = P1 then H' P1 else H b) H' := ⟨k.t2, fun b o hb q => by
    by_cases z : b = P1
    · rw [z] at q ⊢
      exact e1.symm.trans q
    · exact k.keep b o z hb ((e b z).symm.trans q)⟩
  have t2' : GxR.TabG (fun b => if b = P1 then H' P1 else H b) P2 := by obtain ⟨ps, q, r⟩ := t2; exact ⟨ps, (e P2 (Ne.symm h12)).trans q, r⟩
  exact Kp.ma t2' k2 (Kp.ma t1 k1 h)
theorem K2.kp {P1 P2 : Addr} {H H' H2 : Hp} (k : K2 P1 P2 H H') (h12 : P1 ≠ P2) (kp : Kp P1 H' H2) : K2 P1 P2 H H2 :=
  ⟨kp.tab, by obtain ⟨ps, q, r⟩ := k.t2; exact ⟨ps, kp.keep _ _ (Ne.symm h12) q, r⟩, fun b o h1 h2 q => kp.keep b o h1 (k.keep b o h1 h2 q)⟩
theorem K2.tb {P1 P2 : Addr} {H H' H2 : Hp} (k : K2 P1 P2 H H') (h12 : P1 ≠ P2) (tb : GxR.Tabbed P2 H' H2) : K2 P1 P2 H H2 :=
  ⟨by obtain ⟨ps, q, r⟩ := k.t1; exact ⟨ps, (tb.2 _ h12).trans q, r⟩, tb.1, fun b o h1 h2 q => (tb.2 b h2).trans (k.keep b o h1 h2 q)⟩
theorem K2.new {P1 P2 : Addr} {H H' : Hp} (k : K2 P1 P2 H H') (_h12 : P1 ≠ P2) (_t1 : GxR.TabG H P1) (_t2 : GxR.TabG H P2) {p : Addr} {o : HO} (hp : H' p = none) : K2 P1 P2 H (upd H' p o) := by
  have ne : ∀ {b : Addr} {u : HO}, H' b = some u → b ≠ p := fun q z => by
    rw [z, hp] at q
    cases q
  exact ⟨by obtain ⟨ps, q, r⟩ := k.t1; exact ⟨ps, (upd_ne (ne q)).trans q, r⟩, by obtain ⟨ps, q, r⟩ := k.t2; exact ⟨ps, (upd_ne (ne q)).trans q, r⟩, fun b u h1 h2 q => (upd_ne (ne (k.keep b u h1 h2 q))).trans (k.keep b u h1 h2 q)⟩
section
variable {P : Program} {w : World} {K : PySem.W.Frag} {mg : Str → Option Value} {base : Heap} {A : Ads} {P1 P2 c1 c2 : Addr}
theorem ok_kin (T : Txt K mg A) : FnOk P w K mg base (L2N.CX P w) 1 A.a_check_kin A.d_check_kin ["first", "second"] (spKin A) := by
  refine okN T.F_check_kin sc_check_kin (fun vs H Q E h => ?_) (fun cdv Ar outer s H vs Q E hr h => ?_)
  · obtain ⟨_, _, _, _, rfl, _⟩ := h
    rfl
  · obtain ⟨f, s2, M, N, rfl, ⟨mv, ou, rs, hM⟩, ⟨mv2, ou2, rs2, hN⟩, y, n⟩ := h
    refine ⟨_, (pss_one (ps_if (PW.pt (pw_or (pt_cmpR op_ne (pe_ix (r := rIx K) ix_seq (pv 0) pe_int (fun _ _ => rfl)) (pe_ix (r := rIx K) ix_seq (pv 1) pe_int (fun _ _ => rfl)) (nomark _)) (pw_or1 (pt_cmpR op_ne (pe_ix (r := rIx K) ix_seq (pv 0) pe_int (fun _ _ => rfl)) (pe_ix (r := rIx K) ix_seq (pv 1) pe_int (fun _ _ => rfl)) (nomark _))))) (pss_one (L2N.ps_raise rfl (L2N.takes_of rfl rfl rfl rfl) (L2N.pmk_own PySem.F.excBase_ValueError T.x_NotAllowed T.g_NotAllowed T.k_NotAllowed (raises_own T.sb_NotAllowed T.ty_NotAllowed) (by rfl)))) pss_nil)), ?_⟩
    have gi : ∀ {i : Int} {v : V} {Q : VK}, atI [V.int M.ls, .int M.os, .ref mv, .ref ou] i = some v → Q v H → rIx K (.ref f) (.int i) H Q := fun {i v Q} e q => .inr (.inl ⟨f, _, i, v, rfl, rfl, SqT.of hM.top, e, q⟩)
    have gj : ∀ {i : Int} {v : V} {Q : VK}, atI [V.int N.ls, .int N.os, .ref mv2, .ref ou2] i = some v → Q v H → rIx K (.ref s2) (.int i) H Q := fun {i v Q} e q => .inr (.inl ⟨s2, _, i, v, rfl, rfl, SqT.of hN.top, e, q⟩)
    refine ⟨_, rfl, gi (i := 0) rfl ⟨_, rfl, gj (i := 0) rfl ⟨rfl, _, rfl, ?_⟩⟩⟩
    refine ite2 (fun c => ?_) (fun c => ?_)
    · exact n fun z => by simp at c; exact c z.1
    refine ⟨_, rfl, gi (i := 1) rfl ⟨_, rfl, gj (i := 1) rfl ⟨rfl, _, rfl, ?_⟩⟩⟩
    refine ite2 (fun c2 => ?_) (fun c2 => ?_)
    · exact n fun z => by simp at c2; exact c2 z.2
    · exact y ⟨by simpa using c, by simpa using c2⟩
theorem ok_told (T : Txt K mg A) (TB1 : GxR.TabB base mg c1 P1) (hc1 : A.d_are_below.code = .ref c1) (TB2 : GxR.TabB base mg c2 P2) (hc2 : A.d_are_told.code = .ref c2) (h12 : P1 ≠ P2) :
    FnOk P w K mg base (L2N.CX P w) 5 A.a_are_told A.d_are_told ["words", "first", "second"] (spTold A P1 P2) := by
  have G_check_word : FnOk P w K mg base (L2N.CX P w) 4 A.a_check_word A.d_check_word ["machine", "word"] (spCheckWord K A P1) := ok_checkword T TB1 hc1
  have G_check_kin : FnOk P w K mg base (L2N.CX P w) 1 A.a_check_kin A.d_check_kin ["first", "second"] (spKin A) := ok_kin T
  have G_outputs_from : FnOk P w K mg base CX0 1 A.a_outputs_from A.d_outputs_from ["machine", "state", "word"] (spFrom K) := ok_from T
  refine okNC T.F_are_told sc_are_told (fun vs H Q E h => ?_) (fun Ar outer s H vs Q E hr h => ?_)
  · obtain ⟨_, _, _, _, _, _, _, rfl, _⟩ := h
    rfl
  · have hr_check_word : Room 4 _ := hr
    have hr_check_kin : Room 1 _ := hr.mono (by decide)
    refine ⟨_, (pss_cons (ps_expr (pe_call G_check_kin hr_check_kin (by rfl) T.g_check_kin T.F_check_kin.kp T.b_check_kin .nil (L2N.passes_call (L2N.takes_of rfl rfl rfl rfl) (fun _ _ _ _ h => h)) (pa_cons (pv 1) (pa_cons (pv 2) pa_nil))))
      (pss_cons (ps_for (passes_of rfl) rfl (pi_list (pv 0)) (pg_name (i := 3) sc_are_told.nd rfl (Or.inl rfl))
        (pss_one (ps_expr (pe_call G_check_word hr_check_word (by rfl) T.g_check_word T.F_check_word.kp T.b_check_word .nil (L2N.passes_call (L2N.takes_of rfl rfl rfl rfl) (fun _ _ _ _ h => h)) (pa_cons (pv 1) (pa_cons (pv 3) pa_nil))))))
      (pss_one (ps_ret (pe_anyG (k := 1) (x := "word") ["words", "first", "second", "word"] (fun σ => σ.set 3 none) hr (by rfl) T.n_any TB2 hc2
        (by exact ⟨rfl, rfl, by decide +kernel, rfl, rfl, fun y hy e => by (simp only [List.mem_cons, List.not_mem_nil, or_false] at hy; rcases hy with rfl | rfl | rfl | rfl | rfl <;> first | (cases e; done) | exact .inl rfl | exact .inr rfl)⟩) (pi_list (pv 0))
        (fun σ h => by rw [List.length_set]; exact h) (wipeOk "word" _ rfl rfl (lookAll (by decide +kernel)) trivial)
        (fun A' s' H' code fp hA hf => ⟨pg_name (i := 3) sc_are_told.nd rfl (Or.inl rfl) (Or.inr rfl),
          pe_cmpR (show OpR _ (compareOp .NotEq) (rNeD K) from op_neD hA.units) (pe_call G_outputs_from hA (by rfl) T.g_outputs_from T.F_outputs_from.kp T.b_outputs_from .nil pass0 (pa_cons (pv 1) (pa_cons pe_int (pa_cons (pv 3) pa_nil))))
            (pe_call G_outputs_from hA (by rfl) T.g_outputs_from T.F_outputs_from.kp T.b_outputs_from .nil pass0 (pa_cons (pv 2) (pa_cons pe_int (pa_cons (pv 3) pa_nil)))) (nomark _)⟩)
        (fun _ => rfl)))))), ?_⟩
    obtain ⟨wp, f, s, M, N, ts, W, rfl, hM, hN, gM, gN, hw, ll, w5, few, t1, t2, bad, good⟩ := h
    have k0 : K2 P1 P2 H H := ⟨t1, t2, fun b o _ _ e => e⟩
    refine ⟨_, rfl, _, rfl, f, s, M, N, rfl, hM, hN, fun kin => ?_, fun nk => bad (.inl nk) H k0⟩
    refine ⟨_, rfl, wp, rfl, ⟨_, SqL.of hw⟩, for_list (K := K) (a := wp) (xs := ts.map V.ref) (fun i σ H' => ∃ v : Option V, σ = [some (.ref wp), some (.ref f), some (.ref s), v] ∧ K2 P1 P2 H H' ∧ ∀ w ∈ W.take i, fitB M.ls w = true)
      ⟨none, rfl, k0, fun w hw => by simp at hw⟩ (fun i σ H' _ ⟨_, _, k, _⟩ => SqL.of (k.lst t1 t2 hw)) ?_ ?_⟩
    · rintro i y σ H' hi ⟨v, rfl, k, al⟩
      rw [List.getElem?_map] at hi
      obtain ⟨a, ha, rfl⟩ := Option.map_eq_some_iff.mp hi
      have hiW : i < W.length := by rw [← ll.1]; exact (List.getElem?_eq_some_iff.mp ha).1
      have hW := List.getElem?_eq_getElem hiW
      have ea := (k.ll t1 t2 ll).2 i a W[i] ha hW
      refine ⟨_, rfl, _, rfl, f, a, M, W[i], rfl, k.ma h12 t1 t2 hM, SqL.of ea, k.t1, fun H2 kp => ⟨fun ft => ?_, fun ft => ?_⟩⟩
      · refine ⟨some (.ref a), rfl, k.kp h12 kp, fun w hw => ?_⟩
        rw [List.take_succ, hW] at hw
        rcases List.mem_append.mp hw with z | z
        · exact al w z
        · rw [show w = W[i] by simpa using z]
          exact ft
      · exact bad (.inr ⟨W[i], List.getElem_mem hiW, ft⟩) H2 (k.kp h12 kp)
    · rintro σ H' ⟨v, rfl, k, al⟩
      rw [List.length_map, ll.1, List.take_length] at al
      have nb : ¬ BadW M N W := fun z => z.elim (fun z => z kin) fun ⟨w, hw, e⟩ => by
        rw [al w hw] at e
        cases e
      refine ⟨_, rfl, wp, rfl, ⟨_, SqL.of (k.lst t1 t2 hw)⟩, k.t2, fun H2 tb => ⟨fun i σ1 H1 => ∃ v, σ1 = [some (.ref wp), some (.ref f), some (.ref s), v] ∧ K2 P1 P2 H H1 ∧ ∀ w ∈ W.take i, outsA M 0 w = outsA N 0 w, W.length, ⟨none, rfl, k.tb h12 tb, fun w hw => by simp at hw⟩, ?_, ?_⟩⟩
      · rintro i σ1 H1 hi ⟨v1, rfl, k1, al1⟩
        have hW := List.getElem?_eq_getElem hi
        have hiT : i < ts.length := by rw [ll.1]; exact hi
        have hT : (ts.map V.ref)[i]? = some (V.ref ts[i]) := by rw [List.getElem?_map, List.getElem?_eq_getElem hiT]; rfl
        refine ⟨⟨_, _, SqL.of (k1.lst t1 t2 hw), hT⟩, fun y H3 yl => ?_⟩
        obtain ⟨rfl, yl⟩ := yl
        have yl := yl _ (SqL.of (k1.lst t1 t2 hw))
        rw [hT] at yl
        cases yl
        have ea := (k1.ll t1 t2 ll).2 i ts[i] W[i] (List.getElem?_eq_getElem hiT) hW
        have hft := fit_lt (al W[i] (List.getElem_mem hi))
        have hft2 : Lt N.ls W[i] := by rw [← kin.1]; exact hft.1
        refine ⟨_, rfl, _, rfl, f, ts[i], M, 0, W[i], rfl, k1.ma h12 t1 t2 hM, gM, gM.st0, SqL.of ea, hft.1, by have := hft.2; omega, fun p hp => ?_⟩
        have k4 := k1.new h12 t1 t2 (o := .lst ((outsA M 0 W[i]).map V.int)) hp
        have ea4 := (k4.ll t1 t2 ll).2 i ts[i] W[i] (List.getElem?_eq_getElem hiT) hW
        refine ⟨_, rfl, _, rfl, s, ts[i], N, 0, W[i], rfl, k4.ma h12 t1 t2 hN, gN, gN.st0, SqL.of ea4, hft2, by have := hft.2; omega, fun q hq => ?_⟩
        have k5 := k4.new h12 t1 t2 (o := .lst ((outsA N 0 W[i]).map V.int)) hq
        have hpq : p ≠ q := fun z => by
          rw [← z, upd_same] at hq
          cases hq
        refine ne_lsts (by rw [upd_ne hpq, upd_same]) upd_same ⟨_, rfl, fun e => ?_, fun e => ⟨_, rfl, k5, fun w hw => ?_⟩⟩
        · exact good nb _ k5 true ⟨fun _ => ⟨W[i], List.getElem_mem hi, by simpa using e⟩, fun _ => rfl⟩
        · rw [List.take_succ, hW] at hw
          rcases List.mem_append.mp hw with z | z
          · exact al1 w z
          · rw [show w = W[i] by simpa using z]
            simpa using e
      · rintro σ1 H1 ⟨v1, rfl, k1, al1⟩
        rw [List.take_length] at al1
        exact ⟨⟨_, SqL.of (k1.lst t1 t2 hw), by rw [List.length_map, ll.1]; exact Nat.le_refl _⟩, good nb H1 k1 false ⟨fun z => Bool.noConfusion z, fun ⟨w, hw, e⟩ => absurd (al1 w hw) e⟩⟩
end
end K25

set_option Elab.async false
set_option linter.all false
set_option maxRecDepth 100000
set_option maxHeartbeats 4000000
namespace K25
open PySem PySem.Spec PyProof.Rows L2 Mz
def spLock : Sp := fun vs H Q _ => ∃ (p : Addr) (ms : List Int) (L n : Nat), vs = [.ref p, .int (L : Int), .int (n : Int)] ∧ H p = some (.lst (ms.map V.int)) ∧ n ≤ ms.length ∧ 1 ≤ L ∧ L ≤ 4 ∧ 1 ≤ n ∧ n ≤ 30 ∧ ∀ (H' : Hp) (m : Addr) (M : Mach), Same H H' → MA H' m M → Good M → M.ls = (L : Int) → M.os = 2 → M.rows.length = n → Q (.ref m) H'
def spLate : Sp := fun vs H Q _ => ∃ (sm : Addr) (L : Mach) (n : Nat), vs = [.ref sm, .int (n : Int)] ∧ MA H sm L ∧ Good L ∧ L.ls = 1 ∧ 1 ≤ n ∧ n ≤ 30 ∧ ∀ (H' : Hp) (m : Addr) (M : Mach), Same H H' → MA H' m M → Good M → M.ls = 1 → M.os = L.os → M.rows.length = n → Q (.ref m) H'
section
variable {P : Program} {w : World} {K : PySem.W.Frag} {mg : Str → Option Value} {base : Heap} {A : Ads}
theorem ok_lock (T : Txt K mg A) : FnOk P w K mg base CX0 1 A.a_law_lock A.d_law_lock ["numbers", "letters", "states"] spLock := by
  refine T.F_law_lock.ok sc_law_lock (fun vs H Q E h => ?_) (fun cdv Ar outer s H vs Q E hr h => ?_)
  · obtain ⟨_, _, _, _, rfl, _⟩ := h
    rfl
  · obtain ⟨p, ms, L, n, rfl, hp, lm, l1, l4, n1, n30, fin⟩ := h
    refine ⟨_, (pss_cons (ps_set (i := 3) sc_law_lock.nd rfl (Or.inl rfl) (pe_lst pa_nil))
      (pss_cons (ps_for PassesOwn.never rfl (pi_range1 (by rfl) T.n_range (pa_cons (pv 2) pa_nil)) (pg_name (i := 4) sc_law_lock.nd rfl (Or.inl rfl))
        (pss_cons (ps_setLc (i := 5) (own := [("letter", 6)]) (g := (gName 6)) (tt := tYes) rfl sc_law_lock.nd rfl rfl (sw_true rfl rfl rfl (by decide +kernel)) (pi_range1 (by rfl) T.n_range (pa_cons (pv 1) pa_nil)) (blkOk_by (N := ["numbers", "letters", "states", "moves", "state", "row", "letter"]) (sc := defScope s_law_lock) (by decide +kernel)) (fun _ _ _ _ _ => (pg_name (i := 6) sc_law_lock.nd rfl (Or.inl rfl))) (fun _ _ _ _ _ => pts_nil) (fun _ _ _ _ _ => pe_int))
          (pss_cons (ps_asg (pe_callB (call_min2 rfl) (by rfl) T.n_min (by decide +kernel) (pa_cons (pe_op op_sub (pv 2) pe_int) (pa_cons (pe_op op_add (pv 4) pe_int) pa_nil))) (pg_sub (pv 5) (pe_op op_mod (pe_ix (r := rIx K) ix_seq (pv 0) (pv 4) (fun _ _ => rfl)) (pv 1)) set_list))
          (pss_one (ps_expr (pe_bm PySem.F.plainAttrs_list PySem.F.slot_list_append PySem.F.type_list_append mt_append (pv 3) (pa_cons (pe_callTy call_tuple_of (by rfl) T.n_tuple (by decide +kernel) (pa_cons (pv 5) pa_nil)) pa_nil)))))))
      (pss_one (ps_ret (pe_tup (pa_cons (pv 1) (pa_cons pe_int (pa_cons (pe_callTy call_tuple_of (by rfl) T.n_tuple (by decide +kernel) (pa_cons (pv 3) pa_nil)) (pa_cons (pe_callTy call_tuple_of (by rfl) T.n_tuple (by decide +kernel) (pa_cons (pe_lc (own := [("state", 4)]) (g := (gName 4)) (tt := tYes) rfl sc_law_lock.nd (pi_range1 (by rfl) T.n_range (pa_cons (pv 2) pa_nil)) (blkOk_by (N := ["numbers", "letters", "states", "moves", "state", "row", "letter"]) (sc := defScope s_law_lock) (by decide +kernel)) (fun _ _ _ _ _ => (pg_name (i := 4) sc_law_lock.nd rfl (Or.inl rfl))) (fun _ _ _ _ _ => pts_nil) (fun _ _ _ _ _ => (pe_callTy (T := "int") call_int1 (by rfl) T.n_int (by decide +kernel) (pa_cons (pe_cmpR op_eq (pv 4) (pe_op op_sub (pv 2) pe_int) (nomark _)) pa_nil)))) pa_nil)) pa_nil))))))))), ?_⟩
    refine ⟨Nat.zero_le _, fun D hD => ?_⟩
    have s0 := same_upd (o := .lst []) (Same.refl H) hD
    refine ⟨_, rfl, n, rfl, by omega, by omega, for_range (n := n) (fun i σ H' => ∃ (rows : List (List Int)) (v4 v5 : Option V), σ = [some (.ref p), some (.int (L : Int)), some (.int (n : Int)), some (.ref D), v4, v5, none] ∧ Same H H' ∧ Rws H' D rows ∧ rows.length = i ∧ ∀ u ∈ rows, u.length = L ∧ ∀ z ∈ u, 0 ≤ z ∧ z < (n : Int))
      ⟨[], _, _, rfl, s0, Rws.nil upd_same, rfl, fun u h => absurd h (by simp)⟩ ?_ ?_⟩
    · rintro i σ H1 hi ⟨rows, v4, v5, rfl, s1, R1, lr, ok⟩
      have ei : (0 : Int) + (i : Int) = (i : Int) := by omega
      dsimp only [List.set]
      rw [ei]
      refine ⟨_, rfl, L, rfl, by omega, by omega, fun D2 hD2 => ?_⟩
      refine lc_it (walk_range (n := L)) (fun k H' => Same H1 H' ∧ H' D2 = some (.lst ((List.replicate k (0 : Int)).map V.int))) ⟨same_upd (Same.refl _) hD2, upd_same⟩ (fun _ _ _ _ => trivial) ?_ ?_
      · rintro k y H2 H2x hk ⟨s2, e2⟩ ⟨rfl, rfl⟩
        refine ⟨rfl, _, e2, ?_, same_set s2 hD2, ?_⟩
        · rw [List.length_map, List.length_replicate]
          exact Nat.lt_of_le_of_lt (by omega : k ≤ 4) (by decide)
        · rw [upd_same, List.replicate_succ', List.map_append]
          rfl
      rintro H2 ⟨s2, e2⟩
      have R2 := R1.on s2
      obtain ⟨z, ez⟩ : ∃ z, ms[i]? = some z := ⟨_, List.getElem?_eq_getElem (by omega)⟩
      have m0 := Int.emod_nonneg z (show (L : Int) ≠ 0 by omega)
      have m1 := Int.emod_lt_of_pos z (show (0 : Int) < (L : Int) by omega)
      refine ⟨_, rfl, _, _, rfl, rfl, _, rfl, _, _, rfl, rfl, _, _, rfl, ?_⟩
      refine ⟨_, rfl, _, rfl, _, rfl, .inl ⟨p, _, _, _, rfl, rfl, SqL.of (s2 _ _ (s1 _ _ hp)), atI_get? (z := z) (by omega) (by rw [Int.toNat_natCast]; exact ez), _, rfl, _, _, rfl, rfl, (by show (0 : Int) < (L : Int); omega), ?_⟩⟩
      refine ⟨D2, _, _, (z % (L : Int)).toNat, rfl, rfl, e2, ixN_in m0 (by rw [List.length_map, List.length_replicate]; exact m1), ?_⟩
      have e3 : (upd H2 D2 (.lst (((List.replicate L (0 : Int)).map V.int).set (z % (L : Int)).toNat (.int (if (i : Int) + 1 < (n : Int) - 1 then (i : Int) + 1 else (n : Int) - 1))))) D2 = some (.lst (((List.replicate L (0 : Int)).set (z % (L : Int)).toNat (if (i : Int) + 1 < (n : Int) - 1 then (i : Int) + 1 else (n : Int) - 1)).map V.int)) := by
        rw [upd_same, List.map_set]
      have s3 := same_set (o := .lst (((List.replicate L (0 : Int)).map V.int).set (z % (L : Int)).toNat (.int (if (i : Int) + 1 < (n : Int) - 1 then (i : Int) + 1 else (n : Int) - 1)))) s2 hD2
      dsimp only
      generalize upd H2 D2 (.lst (((List.replicate L (0 : Int)).map V.int).set (z % (L : Int)).toNat (.int (if (i : Int) + 1 < (n : Int) - 1 then (i : Int) + 1 else (n : Int) - 1)))) = H3 at *
      have R3 := R1.on s3
      obtain ⟨rs3, er3, _⟩ := id R3
      refine ⟨_, rfl, .inl ⟨rfl, _, SqL.of er3⟩, _, rfl, D2, _, rfl, .inl ⟨SqL.of e3, fun t ht => ?_⟩⟩
      have s4 := same_upd (o := .tup (((List.replicate L (0 : Int)).set (z % (L : Int)).toNat (if (i : Int) + 1 < (n : Int) - 1 then (i : Int) + 1 else (n : Int) - 1)).map V.int)) (Same.refl H3) ht
      obtain ⟨acc, ea, la, R4⟩ := (R3.on s4).push (r := t) (w := (List.replicate L (0 : Int)).set (z % (L : Int)).toNat (if (i : Int) + 1 < (n : Int) - 1 then (i : Int) + 1 else (n : Int) - 1)) upd_same
      refine ⟨D, _, _, rfl, rfl, ea, ?_, ?_⟩
      · rw [la]
        exact Nat.lt_of_le_of_lt (by omega : rows.length ≤ 30) (by decide)
      refine ⟨_, _, _, rfl, same_set ((s1.trans s3).trans s4) hD, R4, by rw [List.length_append, lr]; rfl, fun u hu => ?_⟩
      rcases List.mem_append.mp hu with q | q
      · exact ok u q
      · rw [List.mem_singleton.mp q]
        refine ⟨by rw [List.length_set, List.length_replicate], fun y hy => ?_⟩
        rcases List.mem_or_eq_of_mem_set hy with q | q
        · rw [(List.mem_replicate.mp q).2]
          omega
        · rw [q]
          split <;> omega
    · rintro σ H1 ⟨rows, v4, v5, rfl, s1, R1, lr, ok⟩
      obtain ⟨rs, a1, a2, a3⟩ := R1
      refine ⟨_, rfl, _, rfl, D, _, rfl, .inl ⟨SqL.of a1, fun mv hmv => ?_⟩⟩
      have s3 := same_upd (o := .tup (rs.map V.ref)) (Same.refl H1) hmv
      have e3 : (upd H1 mv (.tup (rs.map V.ref))) mv = some (.tup (rs.map V.ref)) := upd_same
      have a3 := fun i r w p q => s3 _ _ (a3 i r w p q)
      have s3 := s1.trans s3
      generalize upd H1 mv _ = H3 at *
      refine ⟨_, rfl, n, rfl, by omega, by omega, fun D2 hD2 => ?_⟩
      refine lc_it (walk_range (n := n)) (fun i H' => Same H3 H' ∧ H' D2 = some (.lst (((List.range i).map fun k : Nat => if k + 1 = n then (1 : Int) else 0).map V.int))) ⟨same_upd (Same.refl _) hD2, upd_same⟩ (fun _ _ _ _ => trivial) ?_ ?_
      · rintro i z0 H4 H5 hi ⟨s4, e4⟩ ⟨rfl, rfl⟩
        have ei : (0 : Int) + (i : Int) = (i : Int) := by omega
        dsimp only
        rw [ei]
        refine ⟨rfl, ?_⟩
        refine ⟨_, rfl, _, rfl, _, _, rfl, rfl, rfl, .inr ⟨_, rfl, ?_⟩⟩
        refine ⟨_, e4, ?_, same_set s4 hD2, ?_⟩
        · rw [List.length_map, List.length_map, List.length_range]
          exact Nat.lt_of_le_of_lt (by omega : i ≤ 30) (by decide)
        · rw [upd_same, List.range_succ, List.map_append, List.map_append]
          have e5 : (if decide (V.int (i : Int) = V.int ((n : Int) - 1)) = true then (1 : Int) else 0) = if i + 1 = n then 1 else 0 := by
            by_cases c : i + 1 = n
            · rw [if_pos c, if_pos (decide_eq_true (congrArg V.int (by omega)))]
            · rw [if_neg c, if_neg (by rw [decide_eq_true_iff]; intro z; injection z; omega)]
          rw [e5]
          rfl
      rintro H4 ⟨s4, e4⟩
      refine ⟨D2, _, rfl, .inl ⟨SqL.of e4, fun ou hou => ?_⟩⟩
      have s5 := same_upd (o := .tup (((List.range n).map fun k : Nat => if k + 1 = n then (1 : Int) else 0).map V.int)) (Same.refl H4) hou
      have e5 : (upd H4 ou (.tup (((List.range n).map fun k : Nat => if k + 1 = n then (1 : Int) else 0).map V.int))) ou = some (.tup (((List.range n).map fun k : Nat => if k + 1 = n then (1 : Int) else 0).map V.int)) := upd_same
      have s35 := s4.trans s5
      generalize upd H4 ou _ = H5 at *
      refine ⟨(by show 4 ≤ sizeLine; decide), fun q hq => ?_⟩
      have s6 := same_upd (o := .tup [.int (L : Int), .int 2, .ref mv, .ref ou]) (Same.refl H5) hq
      refine fin _ q ⟨(L : Int), 2, rows, (List.range n).map fun k : Nat => if k + 1 = n then (1 : Int) else 0⟩ ((s3.trans s35).trans s6) ⟨mv, ou, rs, upd_same, s6 _ _ (s35 _ _ e3), s6 _ _ e5, a2, fun i r w p q => s6 _ _ (s35 _ _ (a3 i r w p q))⟩ ⟨?_, ?_, ?_, ?_, ?_, ?_, ?_, ?_, ?_, ?_⟩ rfl rfl lr
      all_goals first
        | (show (1 : Int) ≤ (L : Int); omega)
        | (show (L : Int) ≤ 4; omega)
        | (show (1 : Int) ≤ 2; decide)
        | (show (2 : Int) ≤ 6; decide)
        | (show 1 ≤ rows.length; omega)
        | (show rows.length ≤ 30; omega)
        | (show ((List.range n).map _).length = rows.length; rw [List.length_map, List.length_range]; omega)
        | (exact fun u hu => congrArg Nat.cast (ok u hu).1)
        | (exact fun u hu z hz => by have := (ok u hu).2 z hz; show 0 ≤ z ∧ z < (rows.length : Int); omega)
        | (exact fun z hz => by
            obtain ⟨k, _, rfl⟩ := List.mem_map.mp hz
            show 0 ≤ (if k + 1 = n then (1 : Int) else 0) ∧ (if k + 1 = n then (1 : Int) else 0) < 2
            split <;> decide)
theorem ok_late (T : Txt K mg A) : FnOk P w K mg base CX0 1 A.a_law_late A.d_law_late ["small", "states"] spLate := by
  refine T.F_law_late.ok sc_law_late (fun vs H Q E h => ?_) (fun cdv Ar outer s H vs Q E hr h => ?_)
  · obtain ⟨_, _, _, rfl, _⟩ := h
    rfl
  · obtain ⟨sm, L, n, rfl, ⟨mv, ou, rs, hM⟩, g, ls, n1, n30, fin⟩ := h
    refine ⟨_, (pss_cons (ps_set (i := 2) sc_law_late.nd rfl (Or.inl rfl) (pe_lst pa_nil))
      (pss_cons (ps_set (i := 3) sc_law_late.nd rfl (Or.inl rfl) pe_int)
      (pss_cons (ps_for PassesOwn.never rfl (pi_range1 (by rfl) T.n_range (pa_cons (pv 1) pa_nil)) (pg_name (i := 4) sc_law_late.nd rfl (Or.inl rfl))
        (pss_cons (ps_expr (pe_bm PySem.F.plainAttrs_list PySem.F.slot_list_append PySem.F.type_list_append mt_append (pv 2) (pa_cons (pe_ix (r := rIx K) ix_seq (pe_ix (r := rIx K) ix_seq (pv 0) pe_int (fun _ _ => rfl)) (pv 3) (fun _ _ => rfl)) pa_nil)))
          (pss_one (ps_set (i := 3) sc_law_late.nd rfl (Or.inl rfl) (pe_ix (r := rIx K) ix_seq (pe_ix (r := rIx K) ix_seq (pe_ix (r := rIx K) ix_seq (pv 0) pe_int (fun _ _ => rfl)) (pv 3) (fun _ _ => rfl)) pe_int (fun _ _ => rfl))))))
      (pss_cons (ps_asg (pe_op op_mod (pe_op op_add (pe_ix (r := rIx K) ix_seq (pv 2) (pe_un un_neg pe_int) (fun _ _ => rfl)) pe_int) (pe_ix (r := rIx K) ix_seq (pv 0) pe_int (fun _ _ => rfl))) (pg_sub (pv 2) (pe_un un_neg pe_int) set_list))
      (pss_cons (ps_set (i := 5) sc_law_late.nd rfl (Or.inl rfl) (pe_callTy call_tuple_of (by rfl) T.n_tuple (by decide +kernel) (pa_cons (pe_lc (own := [("k", 4)]) (g := (gName 4)) (tt := tYes) rfl sc_law_late.nd (pi_range1 (by rfl) T.n_range (pa_cons (pv 1) pa_nil)) (blkOk_by (N := ["small", "states", "outputs", "state", "k", "moves"]) (sc := defScope s_law_late) (by decide +kernel)) (fun _ _ _ _ _ => (pg_name (i := 4) sc_law_late.nd rfl (Or.inl rfl))) (fun _ _ _ _ _ => pts_nil) (fun _ _ _ _ _ => (pe_tup (pa_cons (pe_callB (call_min2 rfl) (by rfl) T.n_min (by decide +kernel) (pa_cons (pe_op op_sub (pv 1) pe_int) (pa_cons (pe_op op_add (pv 4) pe_int) pa_nil))) pa_nil)))) pa_nil)))
      (pss_one (ps_ret (pe_tup (pa_cons pe_int (pa_cons (pe_ix (r := rIx K) ix_seq (pv 0) pe_int (fun _ _ => rfl)) (pa_cons (pv 5) (pa_cons (pe_callTy call_tuple_of (by rfl) T.n_tuple (by decide +kernel) (pa_cons (pv 2) pa_nil)) pa_nil)))))))))))), ?_⟩
    have o1 := g.o1
    have o6 := g.o6
    refine ⟨Nat.zero_le _, fun D hD => ?_⟩
    have s0 := same_upd (o := .lst []) (Same.refl H) hD
    refine ⟨_, rfl, n, rfl, by omega, by omega, for_range (n := n) (fun i σ H' => ∃ (os : List Int) (x : Int) (v4 : Option V), σ = [some (.ref sm), some (.int (n : Int)), some (.ref D), some (.int x), v4, none] ∧ Same H H' ∧ H' D = some (.lst (os.map V.int)) ∧ os.length = i ∧ L.St x ∧ ∀ z ∈ os, 0 ≤ z ∧ z < L.os)
      ⟨[], 0, _, rfl, s0, upd_same, rfl, g.st0, fun z h => absurd h (by simp)⟩ ?_ ?_⟩
    · rintro i σ H1 hi ⟨os, x, v4, rfl, s1, e1, lo, st, ok⟩
      obtain ⟨q1, q2, q3⟩ := g.outp st
      obtain ⟨st2, w1, a1, a2⟩ := g.step (a := 0) st (by decide) (by rw [ls]; decide)
      have hM1 := hM.same s1
      refine ⟨_, rfl, .inl ⟨rfl, _, SqL.of e1⟩, ?_⟩
      refine ⟨_, rfl, .inr (.inl ⟨sm, _, 3, .ref ou, rfl, rfl, SqT.of hM1.top, rfl, _, rfl, .inr (.inl ⟨ou, _, _, _, rfl, rfl, SqT.of hM1.ou, atI_get? st.1 q1, ?_⟩)⟩)⟩
      refine ⟨D, _, _, rfl, rfl, e1, ?_, ?_⟩
      · rw [List.length_map]
        exact Nat.lt_of_le_of_lt (by omega : os.length ≤ 30) (by decide)
      have s2 := same_set (o := .lst (os.map V.int ++ [.int (L.out x)])) s1 hD
      have e2 : (upd H1 D (.lst (os.map V.int ++ [.int (L.out x)]))) D = some (.lst ((os ++ [L.out x]).map V.int)) := by rw [upd_same, List.map_append]; rfl
      generalize upd H1 D (.lst (os.map V.int ++ [.int (L.out x)])) = H2 at *
      have hM2 := hM.same s2
      obtain ⟨r, f1, f2⟩ := hM2.rowAt st.1 a1
      refine ⟨_, rfl, .inr (.inl ⟨sm, _, 2, .ref mv, rfl, rfl, SqT.of hM2.top, rfl, ?_⟩)⟩
      refine ⟨_, rfl, .inr (.inl ⟨mv, _, _, _, rfl, rfl, SqT.of hM2.mv, f1, ?_⟩)⟩
      refine .inr (.inl ⟨r, _, 0, _, rfl, rfl, SqT.of f2, atI_get? (by decide) a2, ?_⟩)
      refine ⟨os ++ [L.out x], L.next x 0, _, rfl, s2, e2, by rw [List.length_append, lo]; rfl, st2, fun z hz => ?_⟩
      rcases List.mem_append.mp hz with q | q
      · exact ok z q
      · rw [List.mem_singleton.mp q]
        exact ⟨q2, q3⟩
    · rintro σ H1 ⟨os, x, v4, rfl, s1, e1, lo, st, ok⟩
      have lv : (os.map V.int).length = n := by rw [List.length_map, lo]
      have last := List.getElem?_eq_getElem (l := os) (i := n - 1) (by omega)
      have ix : ixN (os.map V.int).length (-1) = some (n - 1) := by
        unfold ixN
        rw [lv, if_neg (by decide), if_pos (by omega)]
        congr 1
        omega
      have hM1 := hM.same s1
      refine ⟨_, rfl, ?_⟩
      refine ⟨_, rfl, .inl ⟨D, _, -1, .int os[n - 1], rfl, rfl, SqL.of e1, ?_, ?_⟩⟩
      · unfold atI
        rw [ix]
        show (os.map V.int)[n - 1]? = _
        rw [List.getElem?_map, last]
        rfl
      refine ⟨_, _, rfl, rfl, ?_⟩
      refine ⟨_, rfl, .inr (.inl ⟨sm, _, 1, _, rfl, rfl, SqT.of hM1.top, rfl, _, _, rfl, rfl, (by show 0 < L.os; omega), ?_⟩)⟩
      have r0 := Int.emod_nonneg (os[n - 1] + 1) (show L.os ≠ 0 by omega)
      have r1 := Int.emod_lt_of_pos (os[n - 1] + 1) (show 0 < L.os by omega)
      refine ⟨_, rfl, _, rfl, D, _, _, n - 1, rfl, rfl, e1, ix, ?_⟩
      have s2 := same_set (o := .lst ((os.map V.int).set (n - 1) (.int ((os[n - 1] + 1) % L.os)))) s1 hD
      have e2 : (upd H1 D (.lst ((os.map V.int).set (n - 1) (.int ((os[n - 1] + 1) % L.os))))) D = some (.lst ((os.set (n - 1) ((os[n - 1] + 1) % L.os)).map V.int)) := by rw [upd_same, List.map_set]
      have ok2 : ∀ z ∈ os.set (n - 1) ((os[n - 1] + 1) % L.os), 0 ≤ z ∧ z < L.os := fun z hz => by
        rcases List.mem_or_eq_of_mem_set hz with q | q
        · exact ok z q
        · rw [q]
          exact ⟨r0, r1⟩
      have lo2 : (os.set (n - 1) ((os[n - 1] + 1) % L.os)).length = n := by rw [List.length_set, lo]
      generalize os.set (n - 1) ((os[n - 1] + 1) % L.os) = os2 at *
      dsimp only
      generalize upd H1 D (.lst ((os.map V.int).set (n - 1) (.int ((os[n - 1] + 1) % L.os)))) = H2 at *
      refine ⟨_, rfl, n, rfl, by omega, by omega, fun D2 hD2 => ?_⟩
      refine lc_it (walk_range (n := n)) (fun i H' => Same H2 H' ∧ Rws H' D2 ((List.range i).map fun k : Nat => [if (k : Int) + 1 < (n : Int) - 1 then (k : Int) + 1 else (n : Int) - 1])) ⟨same_upd (Same.refl _) hD2, Rws.nil upd_same⟩ (fun _ _ _ _ => trivial) ?_ ?_
      · rintro i z0 H3x H3 hi ⟨s3, R3⟩ ⟨rfl, rfl⟩
        have ei : (0 : Int) + (i : Int) = (i : Int) := by omega
        dsimp only
        rw [ei]
        refine ⟨rfl, ?_⟩
        refine ⟨_, rfl, _, _, rfl, rfl, _, rfl, _, _, rfl, rfl, _, _, rfl, (by show 1 ≤ sizeLine; decide), fun t ht => ?_⟩
        have s4 := same_upd (o := .tup [.int (if (i : Int) + 1 < (n : Int) - 1 then (i : Int) + 1 else (n : Int) - 1)]) (Same.refl H3) ht
        obtain ⟨acc, ea, la, R4⟩ := (R3.on s4).push (r := t) (w := [if (i : Int) + 1 < (n : Int) - 1 then (i : Int) + 1 else (n : Int) - 1]) upd_same
        refine ⟨acc, ea, ?_, same_set (s3.trans s4) hD2, ?_⟩
        · rw [la, List.length_map, List.length_range]
          exact Nat.lt_of_le_of_lt (by omega : i ≤ 30) (by decide)
        · rw [List.range_succ, List.map_append]
          exact R4
      rintro H3 ⟨s3, R3⟩
      obtain ⟨rs3, a1, a2, a3⟩ := R3
      refine ⟨D2, _, rfl, .inl ⟨SqL.of a1, fun mv2 hmv2 => ?_⟩⟩
      have s4 := same_upd (o := .tup (rs3.map V.ref)) (Same.refl H3) hmv2
      have e4 : (upd H3 mv2 (.tup (rs3.map V.ref))) mv2 = some (.tup (rs3.map V.ref)) := upd_same
      have a3 := fun i r w p q => s4 _ _ (a3 i r w p q)
      have s14 := (s2.trans s3).trans s4
      have e24 := s4 _ _ (s3 _ _ e2)
      generalize upd H3 mv2 _ = H4 at *
      have hM4 := hM.same s14
      refine ⟨_, rfl, .inr (.inl ⟨sm, _, 1, _, rfl, rfl, SqT.of hM4.top, rfl, ?_⟩)⟩
      refine ⟨_, rfl, _, rfl, D, _, rfl, .inl ⟨SqL.of e24, fun ou2 hou2 => ?_⟩⟩
      have s5 := same_upd (o := .tup (os2.map V.int)) (Same.refl H4) hou2
      have e5 : (upd H4 ou2 (.tup (os2.map V.int))) ou2 = some (.tup (os2.map V.int)) := upd_same
      generalize upd H4 ou2 _ = H5 at *
      refine ⟨(by show 4 ≤ sizeLine; decide), fun q hq => ?_⟩
      have s6 := same_upd (o := .tup [.int 1, .int L.os, .ref mv2, .ref ou2]) (Same.refl H5) hq
      have lrow : ((List.range n).map fun k : Nat => [if (k : Int) + 1 < (n : Int) - 1 then (k : Int) + 1 else (n : Int) - 1]).length = n := by rw [List.length_map, List.length_range]
      refine fin _ q ⟨1, L.os, (List.range n).map fun k : Nat => [if (k : Int) + 1 < (n : Int) - 1 then (k : Int) + 1 else (n : Int) - 1], os2⟩ ((s14.trans s5).trans s6) ⟨mv2, ou2, rs3, upd_same, s6 _ _ (s5 _ _ e4), s6 _ _ e5, a2, fun i r w p q => s6 _ _ (s5 _ _ (a3 i r w p q))⟩ ⟨(by show (1 : Int) ≤ 1; decide), (by show (1 : Int) ≤ 4; decide), o1, o6, by rw [lrow]; exact n1, by rw [lrow]; exact n30, by rw [lrow]; exact lo2, fun u hu => ?_, fun u hu z hz => ?_, ok2⟩ rfl rfl lrow
      · obtain ⟨k, _, rfl⟩ := List.mem_map.mp hu
        rfl
      · obtain ⟨k, hk, rfl⟩ := List.mem_map.mp hu
        have := List.mem_range.mp hk
        rw [List.mem_singleton.mp hz, lrow]
        split <;> omega
end
end K25

set_option Elab.async false
set_option linter.all false
set_option maxRecDepth 100000
set_option maxHeartbeats 4000000
namespace K25
open PySem PySem.Spec PyProof.Rows L2 Mz
/-- a machine's rows and outputs in lists of their own -/
structure Loose (H0 H : Hp) (D O : Addr) (rs : List Addr) (rows : List (List Int)) (os : List Int) : Prop where
  d : H D = some (.lst (rs.map V.ref))
  o : H O = some (.lst (os.map V.int))
  ll : LL H rs rows
  nd : rs.Nodup
  no : O ∉ rs
  dn : D ∉ rs
  od : O ≠ D
  f1 : H0 O = none
  f2 : ∀ r ∈ rs, H0 r = none
def spTwin : Sp := fun vs H Q _ => ∃ (m p : Addr) (M : Mach) (ms : List Int) (e : Nat), vs = [.ref m, .ref p, .int (e : Int)] ∧ MA H m M ∧ Good M ∧ H p = some (.lst (ms.map V.int)) ∧ M.rows.length + e ≤ 30 ∧ ms.length = 45 ∧
  ∀ (H' : Hp) (t D O : Addr) (rs : List Addr) (rows : List (List Int)) (os : List Int), Same H H' → H' t = some (.tup [.ref D, .ref O]) → Loose H H' D O rs rows os → rows.length = M.rows.length + e → os.length = M.rows.length + e →
    (∀ u ∈ rows, (u.length : Int) = M.ls ∧ ∀ z ∈ u, 0 ≤ z ∧ z < ((M.rows.length + e : Nat) : Int)) → (∀ z ∈ os, 0 ≤ z ∧ z < M.os) → Q (.ref t) H'
section
variable {P : Program} {w : World} {K : PySem.W.Frag} {mg : Str → Option Value} {base : Heap} {A : Ads}
theorem ok_twin (T : Txt K mg A) : FnOk P w K mg base CX0 1 A.a_law_twin A.d_law_twin ["machine", "numbers", "extra"] spTwin := by
  refine T.F_law_twin.ok sc_law_twin (fun vs H Q E h => ?_) (fun cdv Ar outer s H vs Q E hr h => ?_)
  · obtain ⟨_, _, _, _, _, rfl, _⟩ := h
    rfl
  · obtain ⟨m, p, M, ms, e, rfl, ⟨mv, ou, rs, hM⟩, g, hp, n30, lm, fin⟩ := h
    refine ⟨_, (pss_cons (ps_set (i := 3) sc_law_twin.nd rfl (Or.inl rfl) (pe_op op_add (pe_callB call_len_seq (by rfl) T.n_len PySem.boot_len (pa_cons (pe_ix (r := rIx K) ix_seq (pv 0) pe_int (fun _ _ => rfl)) pa_nil)) (pv 2)))
      (pss_cons (ps_set (i := 5) sc_law_twin.nd rfl (Or.inr rfl) (pe_lc (own := [("state", 4)]) (g := (gName 4)) (tt := tYes) rfl sc_law_twin.nd (pi_range1 (by rfl) T.n_range (pa_cons (pe_callB call_len_seq (by rfl) T.n_len PySem.boot_len (pa_cons (pe_ix (r := rIx K) ix_seq (pv 0) pe_int (fun _ _ => rfl)) pa_nil)) pa_nil)) (blkOk_by (N := ["machine", "numbers", "extra", "states", "state", "origin", "k", "moves", "row", "letter", "target", "same", "other"]) (sc := defScope s_law_twin) (by decide +kernel)) (fun _ _ _ _ _ => (pg_name (i := 4) sc_law_twin.nd rfl (Or.inl rfl))) (fun _ _ _ _ _ => pts_nil) (fun _ _ _ _ _ => (pv 4))))
      (pss_cons (ps_for PassesOwn.never rfl (pi_range1 (by rfl) T.n_range (pa_cons (pv 2) pa_nil)) (pg_name (i := 6) sc_law_twin.nd rfl (Or.inl rfl))
        (pss_one (ps_expr (pe_bm PySem.F.plainAttrs_list PySem.F.slot_list_append PySem.F.type_list_append mt_append (pv 5) (pa_cons (pe_op op_mod (pe_ix (r := rIx K) ix_seq (pv 1) (pv 6) (fun _ _ => rfl)) (pe_callB call_len_seq (by rfl) T.n_len PySem.boot_len (pa_cons (pe_ix (r := rIx K) ix_seq (pv 0) pe_int (fun _ _ => rfl)) pa_nil))) pa_nil)))))
      (pss_cons (ps_set (i := 7) sc_law_twin.nd rfl (Or.inl rfl) (pe_lst pa_nil))
      (pss_cons (ps_for PassesOwn.never rfl (pi_range1 (by rfl) T.n_range (pa_cons (pv 3) pa_nil)) (pg_name (i := 4) sc_law_twin.nd rfl (Or.inl rfl))
        (pss_cons (ps_set (i := 8) sc_law_twin.nd rfl (Or.inl rfl) (pe_lst pa_nil))
          (pss_cons (ps_for PassesOwn.never rfl (pi_range1 (by rfl) T.n_range (pa_cons (pe_ix (r := rIx K) ix_seq (pv 0) pe_int (fun _ _ => rfl)) pa_nil)) (pg_name (i := 9) sc_law_twin.nd rfl (Or.inl rfl))
            (pss_cons (ps_set (i := 10) sc_law_twin.nd rfl (Or.inr rfl) (pe_ix (r := rIx K) ix_seq (pe_ix (r := rIx K) ix_seq (pe_ix (r := rIx K) ix_seq (pv 0) pe_int (fun _ _ => rfl)) (pe_ix (r := rIx K) ix_seq (pv 5) (pv 4) (fun _ _ => rfl)) (fun _ _ => rfl)) (pv 9) (fun _ _ => rfl)))
              (pss_cons (ps_setLc (i := 11) (own := [("other", 12)]) (g := (gName 12)) rfl sc_law_twin.nd rfl rfl (sw_true rfl rfl rfl (by decide +kernel)) (pi_range1 (by rfl) T.n_range (pa_cons (pv 3) pa_nil)) (blkOk_by (N := ["machine", "numbers", "extra", "states", "state", "origin", "k", "moves", "row", "letter", "target", "same", "other"]) (sc := defScope s_law_twin) (by decide +kernel)) (fun _ _ _ _ _ => (pg_name (i := 12) sc_law_twin.nd rfl (Or.inl rfl))) (fun _ _ _ _ _ => (pts_one (pt_cmpR op_eq (pe_ix (r := rIx K) ix_seq (pv 5) (pv 12) (fun _ _ => rfl)) (pv 10) (nomark _)))) (fun _ _ _ _ _ => (pv 12)))
              (pss_one (ps_expr (pe_bm PySem.F.plainAttrs_list PySem.F.slot_list_append PySem.F.type_list_append mt_append (pv 8) (pa_cons (pe_ix (r := rIx K) ix_seq (pv 11) (pe_op op_mod (pe_op op_fdiv (pe_ix (r := rIx K) ix_seq (pv 1) (pe_op op_add pe_int (pv 4)) (fun _ _ => rfl)) (pe_op op_add pe_int (pv 9))) (pe_callB call_len_seq (by rfl) T.n_len PySem.boot_len (pa_cons (pv 11) pa_nil))) (fun _ _ => rfl)) pa_nil)))))))
          (pss_one (ps_expr (pe_bm PySem.F.plainAttrs_list PySem.F.slot_list_append PySem.F.type_list_append mt_append (pv 7) (pa_cons (pv 8) pa_nil)))))))
      (pss_one (ps_ret (pe_tup (pa_cons (pv 7) (pa_cons (pe_lc (own := [("state", 4)]) (g := (gName 4)) (tt := tYes) rfl sc_law_twin.nd (pi_list (pv 5)) (blkOk_by (N := ["machine", "numbers", "extra", "states", "state", "origin", "k", "moves", "row", "letter", "target", "same", "other"]) (sc := defScope s_law_twin) (by decide +kernel)) (fun _ _ _ _ _ => (pg_name (i := 4) sc_law_twin.nd rfl (Or.inl rfl))) (fun _ _ _ _ _ => pts_nil) (fun _ _ _ _ _ => (pe_ix (r := rIx K) ix_seq (pe_ix (r := rIx K) ix_seq (pv 0) pe_int (fun _ _ => rfl)) (pv 4) (fun _ _ => rfl)))) pa_nil)))))))))), ?_⟩
    have n1 := g.s1
    have l1 := g.l1
    have l4 := g.l4
    refine ⟨_, rfl, .inr (.inl ⟨m, _, 3, .ref ou, rfl, rfl, SqT.of hM.top, rfl, ou, _, rfl, .inr (SqT.of hM.ou), ?_⟩)⟩
    rw [List.length_map, g.ol]
    refine ⟨_, rfl, _, _, rfl, rfl, ?_⟩
    refine ⟨_, rfl, .inr (.inl ⟨m, _, 3, .ref ou, rfl, rfl, SqT.of hM.top, rfl, ou, _, rfl, .inr (SqT.of hM.ou), ?_⟩)⟩
    rw [List.length_map, g.ol]
    refine ⟨_, rfl, by omega, by omega, fun D1 hD1 => ?_⟩
    refine lc_it (walk_range (n := M.rows.length)) (fun k H' => Same H H' ∧ H' D1 = some (.lst (((List.range k).map fun j : Nat => (j : Int)).map V.int))) ⟨same_upd (Same.refl _) hD1, upd_same⟩ (fun _ _ _ _ => trivial) ?_ ?_
    · rintro k y H1x H1 hk ⟨s1, e1⟩ ⟨rfl, rfl⟩
      have ei : (0 : Int) + (k : Int) = (k : Int) := by omega
      dsimp only
      rw [ei]
      refine ⟨rfl, _, rfl, _, e1, ?_, same_set s1 hD1, ?_⟩
      · rw [List.length_map, List.length_map, List.length_range]
        exact Nat.lt_of_le_of_lt (by omega : k ≤ 60) (by decide)
      · rw [upd_same, List.range_succ, List.map_append, List.map_append]
        rfl
    rintro H1 ⟨s1, e1⟩
    refine ⟨_, rfl, e, rfl, by omega, by omega, for_range (n := e) (fun i σ H' => ∃ (og : List Int) (v : Option V), σ = [some (.ref m), some (.ref p), some (.int (e : Int)), some (.int ((M.rows.length : Int) + (e : Int))), none, some (.ref D1), v, none, none, none, none, none, none] ∧ Same H H' ∧ H' D1 = some (.lst (og.map V.int)) ∧ og.length = M.rows.length + i ∧ (∀ k : Nat, k < M.rows.length → og[k]? = some (k : Int)) ∧ ∀ z ∈ og, M.St z)
      ⟨_, _, rfl, s1, e1, by rw [List.length_map, List.length_range]; rfl, fun k hk => by rw [List.getElem?_map, List.getElem?_range hk]; rfl, fun z hz => ?_⟩ ?_ ?_⟩
    · obtain ⟨k, hk, rfl⟩ := List.mem_map.mp hz
      have := List.mem_range.mp hk
      exact ⟨by omega, by omega⟩
    · rintro i σ H2 hi ⟨og, v, rfl, s2, e2, lg, fst, ok⟩
      have ei : (0 : Int) + (i : Int) = (i : Int) := by omega
      dsimp only [List.set]
      rw [ei]
      obtain ⟨z, ez⟩ : ∃ z, ms[i]? = some z := ⟨_, List.getElem?_eq_getElem (by omega)⟩
      have hM2 := hM.same s2
      refine ⟨_, rfl, .inl ⟨rfl, _, SqL.of e2⟩, ?_⟩
      refine ⟨_, rfl, _, rfl, .inl ⟨p, _, _, _, rfl, rfl, SqL.of (s2 _ _ hp), atI_get? (z := z) (by omega) (by rw [Int.toNat_natCast]; exact ez), ?_⟩⟩
      refine ⟨_, rfl, .inr (.inl ⟨m, _, 3, .ref ou, rfl, rfl, SqT.of hM2.top, rfl, ou, _, rfl, .inr (SqT.of hM2.ou), ?_⟩)⟩
      rw [List.length_map, g.ol]
      refine ⟨_, _, rfl, rfl, (by show (0 : Int) < (M.rows.length : Int); omega), ?_⟩
      have m0 := Int.emod_nonneg z (show (M.rows.length : Int) ≠ 0 by omega)
      have m1 := Int.emod_lt_of_pos z (show (0 : Int) < (M.rows.length : Int) by omega)
      refine ⟨D1, _, _, rfl, rfl, e2, ?_, ?_⟩
      · rw [List.length_map]
        exact Nat.lt_of_le_of_lt (by omega : og.length ≤ 60) (by decide)
      refine ⟨og ++ [z % (M.rows.length : Int)], _, rfl, same_set s2 hD1, by rw [upd_same, List.map_append]; rfl, by rw [List.length_append, lg]; rfl, fun k hk => ?_, fun y hy => ?_⟩
      · rw [List.getElem?_append_left (by omega)]
        exact fst k hk
      · rcases List.mem_append.mp hy with q | q
        · exact ok y q
        · rw [List.mem_singleton.mp q]
          exact ⟨m0, m1⟩
    rintro σ H2 ⟨og, v6, rfl, s2, e2, lg, fst, ok⟩
    clear e1 s1 hD1
    refine ⟨Nat.zero_le _, fun D hD => ?_⟩
    have s3 := same_upd (o := .lst []) (Same.refl H2) hD
    have e3 := s3 _ _ e2
    have nD : H D = none := by cases h : H D with | none => rfl | some o => rw [s2 _ _ h] at hD; cases hD
    have hDD : D ≠ D1 := fun z => by rw [z, e2] at hD; cases hD
    have s3 := s2.trans s3
    have eD : (upd H2 D (.lst [])) D = some (.lst []) := upd_same
    generalize upd H2 D (.lst []) = H3 at *
    have en : (M.rows.length : Int) + (e : Int) = ((M.rows.length + e : Nat) : Int) := by omega
    dsimp only [List.set]
    rw [en]
    generalize hN : M.rows.length + e = N at *
    refine ⟨_, rfl, N, rfl, by omega, by omega, for_range (n := N) (fun i σ H' => ∃ (v4 v8 v9 v10 v11 v12 : Option V) (rs : List Addr) (rows : List (List Int)), σ = [some (.ref m), some (.ref p), some (.int (e : Int)), some (.int (N : Int)), v4, some (.ref D1), v6, some (.ref D), v8, v9, v10, v11, v12] ∧ Same H H' ∧ H' D1 = some (.lst (og.map V.int)) ∧ H' D = some (.lst (rs.map V.ref)) ∧ LL H' rs rows ∧ rs.Nodup ∧ (∀ r ∈ rs, H r = none ∧ r ≠ D ∧ r ≠ D1) ∧ rows.length = i ∧ (∀ u ∈ rows, (u.length : Int) = M.ls ∧ ∀ z ∈ u, 0 ≤ z ∧ z < (N : Int)))
      ⟨_, _, _, _, _, _, [], [], rfl, s3, e3, eD, ⟨rfl, fun i a w h => by simp at h⟩, List.nodup_nil, fun r h => absurd h (by simp), rfl, fun u h => absurd h (by simp)⟩ ?_ ?_⟩
    · rintro i σ H4 hi ⟨v4, v8, v9, v10, v11, v12, ts, rows, rfl, s4, e4, eD4, ll, nd, fr, lr, ok4⟩
      have ei : (0 : Int) + (i : Int) = (i : Int) := by omega
      dsimp only [List.set]
      rw [ei]
      have hM4 := hM.same s4
      refine ⟨Nat.zero_le _, fun D2 hD2 => ?_⟩
      have nD2 : H D2 = none := by cases h : H D2 with | none => rfl | some o => rw [s4 _ _ h] at hD2; cases hD2
      have d2D : D2 ≠ D := fun z => by rw [z, eD4] at hD2; cases hD2
      have d2D1 : D2 ≠ D1 := fun z => by rw [z, e4] at hD2; cases hD2
      have d2t : D2 ∉ ts := fun z => by
        obtain ⟨j, hj, hjt⟩ := List.getElem_of_mem z
        have := ll.2 j D2 _ (List.getElem?_eq_some_iff.mpr ⟨hj, hjt⟩) (List.getElem?_eq_getElem (by rw [← ll.1]; exact hj))
        rw [hD2] at this
        cases this
      have s5 := same_upd (o := .lst []) (Same.refl H4) hD2
      have e5 : (upd H4 D2 (.lst [])) D2 = some (.lst []) := upd_same
      generalize upd H4 D2 (.lst []) = H5 at *
      have hM5 := hM4.same s5
      obtain ⟨L, eL⟩ : ∃ L : Nat, M.ls = (L : Int) := ⟨M.ls.toNat, by omega⟩
      refine ⟨_, rfl, .inr (.inl ⟨m, _, 0, _, rfl, rfl, SqT.of hM5.top, rfl, ?_⟩)⟩
      refine ⟨L, by rw [eL], by omega, by omega, for_range (n := L) (fun j σ H' => ∃ (v9 v10 v11 v12 : Option V) (u : List Int), σ = [some (.ref m), some (.ref p), some (.int (e : Int)), some (.int (N : Int)), some (.int (i : Int)), some (.ref D1), v6, some (.ref D), some (.ref D2), v9, v10, v11, v12] ∧ Same H4 H' ∧ H' D2 = some (.lst (u.map V.int)) ∧ u.length = j ∧ ∀ z ∈ u, 0 ≤ z ∧ z < (N : Int))
        ⟨_, _, _, _, [], rfl, s5, e5, rfl, fun z h => absurd h (by simp)⟩ ?_ ?_⟩
      · rintro j σ H6 hj ⟨v9, v10, v11, v12, u, rfl, s6, e6, lu, oku⟩
        have ej : (0 : Int) + (j : Int) = (j : Int) := by omega
        dsimp only [List.set]
        rw [ej]
        have hM6 := hM4.same s6
        obtain ⟨y, ey⟩ : ∃ y, og[i]? = some y := ⟨_, List.getElem?_eq_getElem (by omega)⟩
        have st := ok y (List.mem_of_getElem? ey)
        obtain ⟨st2, w1, a1, a2⟩ := g.step (a := (j : Int)) st (by omega) (by omega)
        obtain ⟨r, f1, f2⟩ := hM6.rowAt st.1 a1
        refine ⟨_, rfl, .inr (.inl ⟨m, _, 2, .ref mv, rfl, rfl, SqT.of hM6.top, rfl, ?_⟩)⟩
        refine ⟨_, rfl, _, rfl, .inl ⟨D1, _, _, _, rfl, rfl, SqL.of (s6 _ _ e4), atI_get? (z := y) (by omega) (by rw [Int.toNat_natCast]; exact ey), ?_⟩⟩
        refine .inr (.inl ⟨mv, _, _, _, rfl, rfl, SqT.of hM6.mv, f1, ?_⟩)
        refine ⟨_, rfl, .inr (.inl ⟨r, _, _, _, rfl, rfl, SqT.of f2, atI_get? (by omega) a2, ?_⟩)⟩
        dsimp only [List.set]
        have tb := st2
        generalize M.next y (j : Int) = tg at *
        refine ⟨_, rfl, N, rfl, by omega, by omega, fun D3 hD3 => ?_⟩
        refine lc_it (walk_range (n := N)) (fun k H' => Same H6 H' ∧ ∃ sm : List Int, H' D3 = some (.lst (sm.map V.int)) ∧ sm.length ≤ k ∧ (tg.toNat < k → sm ≠ []) ∧ ∀ z ∈ sm, 0 ≤ z ∧ z < (N : Int)) ⟨same_upd (Same.refl _) hD3, [], upd_same, Nat.le_refl _, fun h => absurd h (by omega), fun z h => absurd h (by simp)⟩ (fun _ _ _ _ => trivial) ?_ ?_
        · rintro k z0 H7x H7 hk ⟨s7, sm, e7, l7, ne7, ok7⟩ ⟨rfl, rfl⟩
          have ek : (0 : Int) + (k : Int) = (k : Int) := by omega
          dsimp only
          rw [ek]
          obtain ⟨x, ex⟩ : ∃ x, og[k]? = some x := ⟨_, List.getElem?_eq_getElem (by omega)⟩
          refine ⟨rfl, ?_⟩
          refine ⟨_, rfl, _, rfl, .inl ⟨D1, _, _, _, rfl, rfl, SqL.of (s7 _ _ (s6 _ _ e4)), atI_get? (z := x) (by omega) (by rw [Int.toNat_natCast]; exact ex), ?_⟩⟩
          refine ⟨_, rfl, rfl, _, rfl, ?_⟩
          refine ite2 (fun c => ?_) (fun c => ?_)
          · refine ⟨_, rfl, _, e7, ?_, same_set s7 hD3, sm ++ [(k : Int)], by rw [upd_same, List.map_append]; rfl, by rw [List.length_append]; exact Nat.succ_le_succ l7, fun _ z => by simp at z, fun z hz => ?_⟩
            · rw [List.length_map]
              exact Nat.lt_of_le_of_lt (by omega : sm.length ≤ 60) (by decide)
            · rcases List.mem_append.mp hz with q | q
              · exact ok7 z q
              · rw [List.mem_singleton.mp q]
                omega
          · refine ⟨s7, sm, e7, by omega, fun h => ?_, ok7⟩
            by_cases h2 : tg.toNat < k
            · exact ne7 h2
            · exfalso
              have h3 : k = tg.toNat := by omega
              have := fst k (by obtain ⟨q1, q2⟩ := tb; omega)
              rw [ex] at this
              obtain ⟨q1, q2⟩ := tb
              have h4 : x = tg := by injection this; omega
              exact c (by rw [h4]; simp)
        rintro H7 ⟨s7, sm, e7, l7, ne7, ok7⟩
        have lpos : 0 < sm.length := List.length_pos_iff.mpr (ne7 (by obtain ⟨q1, q2⟩ := tb; omega))
        obtain ⟨z1, ez1⟩ : ∃ z1, ms[(4 + (i : Int)).toNat]? = some z1 := ⟨_, List.getElem?_eq_getElem (by omega)⟩
        have m0 := Int.emod_nonneg (z1 / (1 + (j : Int))) (show (sm.length : Int) ≠ 0 by omega)
        have m1 := Int.emod_lt_of_pos (z1 / (1 + (j : Int))) (show (0 : Int) < (sm.length : Int) by omega)
        obtain ⟨x, ex⟩ : ∃ x, sm[(z1 / (1 + (j : Int)) % (sm.length : Int)).toNat]? = some x := ⟨_, List.getElem?_eq_getElem (by omega)⟩
        dsimp only [List.set]
        have e67 := s7 _ _ e6
        refine ⟨_, rfl, .inl ⟨rfl, _, SqL.of e67⟩, ?_⟩
        refine ⟨_, rfl, _, rfl, _, rfl, _, _, rfl, rfl, .inl ⟨p, _, _, _, rfl, rfl, SqL.of (s7 _ _ (s6 _ _ (s4 _ _ hp))), atI_get? (z := z1) (by omega) ez1, ?_⟩⟩
        refine ⟨_, rfl, _, _, rfl, rfl, _, _, rfl, rfl, ⟨(by omega), (by omega)⟩, ?_⟩
        refine ⟨_, rfl, D3, _, rfl, .inl (SqL.of e7), ?_⟩
        rw [List.length_map]
        refine ⟨_, _, rfl, rfl, (by show (0 : Int) < (sm.length : Int); omega), .inl ⟨D3, _, _, _, rfl, rfl, SqL.of e7, atI_get? m0 ex, ?_⟩⟩
        refine ⟨D2, _, _, rfl, rfl, e67, ?_, ?_⟩
        · rw [List.length_map]
          exact Nat.lt_of_le_of_lt (by omega : u.length ≤ 60) (by decide)
        refine ⟨_, _, _, _, u ++ [x], rfl, same_set (s6.trans s7) hD2, by rw [upd_same, List.map_append]; rfl, by rw [List.length_append, lu]; rfl, fun z hz => ?_⟩
        rcases List.mem_append.mp hz with q | q
        · exact oku z q
        · rw [List.mem_singleton.mp q]
          exact ok7 x (List.mem_of_getElem? ex)
      rintro σ H6 ⟨v9, v10, v11, v12, u, rfl, s6, e6, lu, oku⟩
      have eD6 := s6 _ _ eD4
      refine ⟨_, rfl, .inl ⟨rfl, _, SqL.of eD6⟩, _, rfl, D, _, _, rfl, rfl, eD6, ?_, ?_⟩
      · rw [List.length_map, ll.1]
        exact Nat.lt_of_le_of_lt (by omega : rows.length ≤ 60) (by decide)
      have ld : LLd H6 ts rows D := ⟨ll.same s6, fun a h => (fr a h).2.1⟩
      refine ⟨_, _, _, _, _, _, ts ++ [D2], rows ++ [u], rfl, same_set (s4.trans s6) nD, (upd_ne (Ne.symm hDD)).trans (s6 _ _ e4), by rw [upd_same, List.map_append]; rfl, (ld.push e6 d2D _).1, List.nodup_append.mpr ⟨nd, by simp, fun a ha b hb z => ?_⟩, fun r hr => ?_, by rw [List.length_append, lr]; rfl, fun v hv => ?_⟩
      · rw [List.mem_singleton.mp hb] at z
        exact d2t (z ▸ ha)
      · rcases List.mem_append.mp hr with q | q
        · exact fr r q
        · rw [List.mem_singleton.mp q]
          exact ⟨nD2, d2D, d2D1⟩
      · rcases List.mem_append.mp hv with q | q
        · exact ok4 v q
        · rw [List.mem_singleton.mp q]
          exact ⟨by rw [eL, lu], oku⟩
    rintro σ H4 ⟨v4, v8, v9, v10, v11, v12, ts, rows, rfl, s4, e4, eD4, ll, nd, fr, lr, ok4⟩
    refine ⟨_, rfl, _, rfl, D1, rfl, ⟨_, SqL.of e4⟩, fun O hO => ?_⟩
    refine lc_list (K := K) (a := D1) (xs := og.map V.int) (fun k H' => Same H4 H' ∧ H' O = some (.lst (((og.take k).map M.out).map V.int))) ⟨same_upd (Same.refl _) hO, upd_same⟩ (fun k H' _ ⟨z, _⟩ => SqL.of (z _ _ e4)) ?_ ?_
    · rintro k y H5 hy ⟨s5, e5⟩
      rw [List.getElem?_map] at hy
      obtain ⟨x, hx, rfl⟩ := Option.map_eq_some_iff.mp hy
      have st := ok x (List.mem_of_getElem? hx)
      obtain ⟨q1, q2, q3⟩ := g.outp st
      have hM5 := (hM.same s4).same s5
      refine ⟨rfl, ?_⟩
      refine ⟨_, rfl, .inr (.inl ⟨m, _, 3, .ref ou, rfl, rfl, SqT.of hM5.top, rfl, _, rfl, .inr (.inl ⟨ou, _, _, _, rfl, rfl, SqT.of hM5.ou, atI_get? st.1 q1, ?_⟩)⟩)⟩
      refine ⟨_, e5, ?_, same_set s5 hO, ?_⟩
      · rw [List.length_map, List.length_map, List.length_take]
        exact Nat.lt_of_le_of_lt (by omega : min k og.length ≤ 60) (by decide)
      · rw [upd_same, take_more hx, List.map_append, List.map_append]
        rfl
    rintro H5 ⟨s5, e5⟩
    rw [List.length_map, List.take_length] at e5
    refine ⟨(by show 2 ≤ sizeLine; decide), fun t ht => ?_⟩
    have s6 := same_upd (o := .tup [.ref D, .ref O]) (Same.refl H5) ht
    have nO : H O = none := by cases h : H O with | none => rfl | some o => rw [s4 _ _ h] at hO; cases hO
    have oN : ∀ b o, H4 b = some o → O ≠ b := fun b o q z => by rw [z, q] at hO; cases hO
    refine fin _ t D O ts rows (og.map M.out) ((s4.trans s5).trans s6) upd_same ⟨s6 _ _ (s5 _ _ eD4), s6 _ _ e5, (ll.same s5).same s6, nd, fun z => ?_, fun z => (fr D z).2.1 rfl, oN _ _ eD4, nO, fun r hr => (fr r hr).1⟩ lr (by rw [List.length_map, lg]) ok4 (fun z hz => ?_)
    · obtain ⟨j, hj, hjt⟩ := List.getElem_of_mem z
      exact oN _ _ (ll.2 j O _ (List.getElem?_eq_some_iff.mpr ⟨hj, hjt⟩) (List.getElem?_eq_getElem (by rw [← ll.1]; exact hj))) rfl
    · obtain ⟨x, hx, rfl⟩ := List.mem_map.mp hz
      obtain ⟨q1, q2, q3⟩ := g.outp (ok x hx)
      exact ⟨q2, q3⟩
end
end K25

set_option Elab.async false
set_option linter.all false
set_option maxRecDepth 100000
set_option maxHeartbeats 4000000
namespace K25
open PySem PySem.Spec PyProof.Rows L2 Mz
def spSpoilt : Sp := fun vs H Q _ => ∃ (m p : Addr) (M : Mach) (ms : List Int) (e : Nat), vs = [.ref m, .ref p, .int (e : Int)] ∧ MA H m M ∧ Good M ∧ H p = some (.lst (ms.map V.int)) ∧ M.rows.length + e ≤ 30 ∧ ms.length = 45 ∧
  ∀ (H' : Hp) (t : Addr) (N : Mach), Same H H' → MA H' t N → Good N → N.ls = M.ls → N.os = M.os → N.rows.length = M.rows.length + e → Q (.ref t) H'
/-- one output put at a place -/
theorem Loose.out {H0 H : Hp} {D O : Addr} {rs : List Addr} {rows : List (List Int)} {os : List Int} (h : Loose H0 H D O rs rows os) (os2 : List Int) : Loose H0 (upd H O (.lst (os2.map V.int))) D O rs rows os2 :=
  ⟨(upd_ne (Ne.symm h.od)).trans h.d, upd_same, ⟨h.ll.1, fun i a w p q => (upd_ne (fun z => h.no (by rw [← z]; exact List.mem_of_getElem? p))).trans (h.ll.2 i a w p q)⟩, h.nd, h.no, h.dn, h.od, h.f1, h.f2⟩
theorem Loose.move {H0 H : Hp} {D O r : Addr} {rs : List Addr} {rows : List (List Int)} {os u : List Int} {k : Nat} (h : Loose H0 H D O rs rows os) (hr : rs[k]? = some r) : Loose H0 (upd H r (.lst (u.map V.int))) D O rs (rows.set k u) os := by
  have mr := List.mem_of_getElem? hr
  refine ⟨(upd_ne (fun z => h.dn (by rw [z]; exact mr))).trans h.d, (upd_ne (fun z => h.no (by rw [z]; exact mr))).trans h.o, ⟨by rw [List.length_set]; exact h.ll.1, fun i a w p q => ?_⟩, h.nd, h.no, h.dn, h.od, h.f1, h.f2⟩
  rw [List.getElem?_set] at q
  split at q
  · rename_i z
    subst z
    split at q
    · injection q with q
      subst q
      rw [hr] at p
      injection p with p
      rw [← p]
      exact upd_same
    · cases q
  · rename_i z
    refine (upd_ne (fun y => z ?_)).trans (h.ll.2 i a w p q)
    obtain ⟨i1, i2⟩ := List.getElem?_eq_some_iff.mp p
    obtain ⟨k1, k2⟩ := List.getElem?_eq_some_iff.mp hr
    exact ((List.getElem_inj h.nd).mp (by rw [i2, k2, y])).symm
section
variable {P : Program} {w : World} {K : PySem.W.Frag} {mg : Str → Option Value} {base : Heap} {A : Ads}
theorem ok_spoilt (T : Txt K mg A) : FnOk P w K mg base CX0 2 A.a_law_spoilt A.d_law_spoilt ["machine", "numbers", "extra"] spSpoilt := by
  have G_law_twin : FnOk P w K mg base CX0 1 A.a_law_twin A.d_law_twin ["machine", "numbers", "extra"] spTwin := ok_twin T
  refine T.F_law_spoilt.ok sc_law_spoilt (fun vs H Q E h => ?_) (fun cdv Ar outer s H vs Q E hr h => ?_)
  · obtain ⟨_, _, _, _, _, rfl, _⟩ := h
    rfl
  · have hr_law_twin : Room 1 _ := hr
    obtain ⟨m, p, M, ms, e, rfl, ⟨mv, ou, rs0, hM⟩, g, hp, n30, lm, fin⟩ := h
    refine ⟨_, (pss_cons (ps_asg (pe_call G_law_twin hr_law_twin (by rfl) T.g_law_twin T.F_law_twin.kp T.b_law_twin .nil pass0 (pa_cons (pv 0) (pa_cons (pv 1) (pa_cons (pv 2) pa_nil)))) (pg_tup rfl (pgs_cons (pg_name (i := 3) sc_law_spoilt.nd rfl (Or.inl rfl)) (pgs_cons (pg_name (i := 4) sc_law_spoilt.nd rfl (Or.inl rfl)) pgs_nil))))
      (pss_cons (ps_set (i := 5) sc_law_spoilt.nd rfl (Or.inl rfl) (pe_op op_sub (pe_op op_sub (pe_callB call_len_seq (by rfl) T.n_len PySem.boot_len (pa_cons (pv 4) pa_nil)) pe_int) (pe_op op_mod (pe_ix (r := rIx K) ix_seq (pv 1) pe_int (fun _ _ => rfl)) (pe_op op_add (pv 2) pe_int))))
      (pss_cons (ps_if (pt_cmpR op_eq (pe_op op_mod (pe_ix (r := rIx K) ix_seq (pv 1) pe_int (fun _ _ => rfl)) pe_int) pe_int (nomark _)) (pss_one (ps_asg (pe_op op_mod (pe_ix (r := rIx K) ix_seq (pv 1) pe_int (fun _ _ => rfl)) (pe_ix (r := rIx K) ix_seq (pv 0) pe_int (fun _ _ => rfl))) (pg_sub (pv 4) (pv 5) set_list))) (pss_one (ps_if (pt_cmpR op_lt (pe_op op_mod (pe_ix (r := rIx K) ix_seq (pv 1) pe_int (fun _ _ => rfl)) pe_int) pe_int (nomark _)) (pss_one (ps_asg (pe_op op_mod (pe_ix (r := rIx K) ix_seq (pv 1) pe_int (fun _ _ => rfl)) (pe_callB call_len_seq (by rfl) T.n_len PySem.boot_len (pa_cons (pv 4) pa_nil))) (pg_sub (pe_ix (r := rIx K) ix_seq (pv 3) (pv 5) (fun _ _ => rfl)) (pe_op op_mod (pe_ix (r := rIx K) ix_seq (pv 1) pe_int (fun _ _ => rfl)) (pe_ix (r := rIx K) ix_seq (pv 0) pe_int (fun _ _ => rfl))) set_list))) pss_nil)))
      (pss_one (ps_ret (pe_tup (pa_cons (pe_ix (r := rIx K) ix_seq (pv 0) pe_int (fun _ _ => rfl)) (pa_cons (pe_ix (r := rIx K) ix_seq (pv 0) pe_int (fun _ _ => rfl)) (pa_cons (pe_callTy call_tuple_of (by rfl) T.n_tuple (by decide +kernel) (pa_cons (pe_lc (own := [("row", 6)]) (g := (gName 6)) (tt := tYes) rfl sc_law_spoilt.nd (pi_list (pv 3)) (blkOk_by (N := ["machine", "numbers", "extra", "moves", "outputs", "state", "row"]) (sc := defScope s_law_spoilt) (by decide +kernel)) (fun _ _ _ _ _ => (pg_name (i := 6) sc_law_spoilt.nd rfl (Or.inl rfl))) (fun _ _ _ _ _ => pts_nil) (fun _ _ _ _ _ => (pe_callTy (r := rTof K) (T := "tuple") call_tof (by rfl) T.n_tuple (by decide +kernel) (pa_cons (pv 6) pa_nil)))) pa_nil)) (pa_cons (pe_callTy call_tuple_of (by rfl) T.n_tuple (by decide +kernel) (pa_cons (pv 4) pa_nil)) pa_nil)))))))))), ?_⟩
    have l1 := g.l1
    have o1 := g.o1
    have n1 := g.s1
    obtain ⟨z0, e0⟩ : ∃ z, ms[40]? = some z := ⟨_, List.getElem?_eq_getElem (by omega)⟩
    obtain ⟨z1, e1⟩ : ∃ z, ms[41]? = some z := ⟨_, List.getElem?_eq_getElem (by omega)⟩
    obtain ⟨z2, e2⟩ : ∃ z, ms[42]? = some z := ⟨_, List.getElem?_eq_getElem (by omega)⟩
    obtain ⟨z3, e3⟩ : ∃ z, ms[43]? = some z := ⟨_, List.getElem?_eq_getElem (by omega)⟩
    refine ⟨_, rfl, _, rfl, _, rfl, m, p, M, ms, e, rfl, ⟨mv, ou, rs0, hM⟩, g, hp, n30, lm, fun H1 t D O rs rows os s1 et LO lr lo okr oko => ?_⟩
    refine ⟨t, _, rfl, SqT.of et, rfl, _, _, rfl, _, _, rfl, rfl, ?_⟩
    have hM1 := hM.same s1
    have hp1 := s1 _ _ hp
    dsimp only [List.set]
    refine ⟨_, rfl, O, _, rfl, .inl (SqL.of LO.o), ?_⟩
    rw [List.length_map, lo]
    refine ⟨_, _, rfl, rfl, _, rfl, .inl ⟨p, _, 40, _, rfl, rfl, SqL.of hp1, atI_get? (z := z0) (by decide) e0, ?_⟩⟩
    refine ⟨_, rfl, _, _, rfl, rfl, _, _, rfl, rfl, (by show (0 : Int) < (e : Int) + 1; omega), _, _, rfl, rfl, ?_⟩
    obtain ⟨st, est, st1⟩ : ∃ st : Nat, ((M.rows.length + e : Nat) : Int) - 1 - z0 % ((e : Int) + 1) = (st : Int) ∧ st < M.rows.length + e := by
      have m0 := Int.emod_nonneg z0 (show (e : Int) + 1 ≠ 0 by omega)
      have m1 := Int.emod_lt_of_pos z0 (show (0 : Int) < (e : Int) + 1 by omega)
      exact ⟨(((M.rows.length + e : Nat) : Int) - 1 - z0 % ((e : Int) + 1)).toNat, by omega, by omega⟩
    dsimp only [List.set]
    rw [est]
    refine ⟨_, rfl, .inl ⟨p, _, 41, _, rfl, rfl, SqL.of hp1, atI_get? (z := z1) (by decide) e1, _, _, rfl, rfl, (by show (0 : Int) < 4; decide), ?_⟩⟩
    refine ⟨rfl, _, rfl, ?_⟩
    have same1 : ∀ {H2 : Hp} {a : Addr} {o : HO}, Same H H2 → H a = none → Same H (upd H2 a o) := fun q h => same_set q h
    refine ite2 (fun c => ?_) (fun c => ?_)
    · refine ⟨_, rfl, .inl ⟨p, _, 42, _, rfl, rfl, SqL.of hp1, atI_get? (z := z2) (by decide) e2, ?_⟩⟩
      refine ⟨_, rfl, .inr (.inl ⟨m, _, 1, _, rfl, rfl, SqT.of hM1.top, rfl, _, _, rfl, rfl, (by show (0 : Int) < M.os; omega), ?_⟩)⟩
      have r0 := Int.emod_nonneg z2 (show M.os ≠ 0 by omega)
      have r1 := Int.emod_lt_of_pos z2 (show (0 : Int) < M.os by omega)
      refine ⟨_, rfl, _, rfl, O, _, _, (st : Int).toNat, rfl, rfl, LO.o, ixN_in (by omega) (by rw [List.length_map, lo]; omega), ?_⟩
      rw [← List.map_set]
      have LO := LO.out (os.set (st : Int).toNat (z2 % M.os))
      have s1 := same1 (o := .lst ((os.set (st : Int).toNat (z2 % M.os)).map V.int)) s1 LO.f1
      have lo : (os.set (st : Int).toNat (z2 % M.os)).length = M.rows.length + e := by rw [List.length_set, lo]
      have oko : ∀ z ∈ os.set (st : Int).toNat (z2 % M.os), 0 ≤ z ∧ z < M.os := fun z hz => by
        rcases List.mem_or_eq_of_mem_set hz with q | q
        · exact oko z q
        · rw [q]; exact ⟨r0, r1⟩
      clear et hp1 hM1
      generalize os.set (st : Int).toNat (z2 % M.os) = os at *
      generalize upd H1 O _ = H1 at *
      dsimp only
      have hM2 := hM.same s1
      refine ⟨_, rfl, .inr (.inl ⟨m, _, 0, _, rfl, rfl, SqT.of hM2.top, rfl, ?_⟩)⟩
      refine ⟨_, rfl, .inr (.inl ⟨m, _, 1, _, rfl, rfl, SqT.of hM2.top, rfl, ?_⟩)⟩
      refine ⟨_, rfl, D, rfl, ⟨_, SqL.of LO.d⟩, fun D2 hD2 => ?_⟩
      refine lc_list (K := K) (a := D) (xs := rs.map V.ref) (fun k H' => Same H1 H' ∧ Rws H' D2 (rows.take k)) ⟨same_upd (Same.refl _) hD2, Rws.nil upd_same⟩ (fun k H' _ ⟨z, _⟩ => SqL.of (z _ _ LO.d)) ?_ ?_
      · rintro k y H5 hy ⟨s5, R5⟩
        obtain ⟨r, hr, rfl⟩ := ofV hy
        have kl : k < rows.length := by
          rw [← LO.ll.1]
          exact (List.getElem?_eq_some_iff.mp hr).1
        have ek := List.getElem?_eq_getElem kl
        have er := s5 _ _ (LO.ll.2 k r _ hr ek)
        refine ⟨rfl, ?_⟩
        refine ⟨_, rfl, r, _, rfl, .inl ⟨SqL.of er, fun t2 ht2 => ?_⟩⟩
        have s6 := same_upd (o := .tup (rows[k].map V.int)) (Same.refl H5) ht2
        obtain ⟨acc, ea, la, R6⟩ := (R5.on s6).push (r := t2) (w := rows[k]) upd_same
        refine ⟨acc, ea, ?_, same_set (s5.trans s6) hD2, ?_⟩
        · rw [la, List.length_take]
          exact Nat.lt_of_le_of_lt (by omega : min k rows.length ≤ 60) (by decide)
        · rw [take_more ek]
          exact R6
      rintro H5 ⟨s5, R5⟩
      rw [List.length_map, LO.ll.1, List.take_length] at R5
      obtain ⟨rs5, a1, a2, a3⟩ := R5
      refine ⟨D2, _, rfl, .inl ⟨SqL.of a1, fun mv2 hmv2 => ?_⟩⟩
      have s6 := same_upd (o := .tup (rs5.map V.ref)) (Same.refl H5) hmv2
      have e6 : (upd H5 mv2 (.tup (rs5.map V.ref))) mv2 = some (.tup (rs5.map V.ref)) := upd_same
      have a3 := fun i r w p q => s6 _ _ (a3 i r w p q)
      have s6 := s5.trans s6
      generalize upd H5 mv2 _ = H6 at *
      have eO := s6 _ _ LO.o
      refine ⟨_, rfl, O, _, rfl, .inl ⟨SqL.of eO, fun ou2 hou2 => ?_⟩⟩
      have s7 := same_upd (o := .tup (os.map V.int)) (Same.refl H6) hou2
      have e7 : (upd H6 ou2 (.tup (os.map V.int))) ou2 = some (.tup (os.map V.int)) := upd_same
      generalize upd H6 ou2 _ = H7 at *
      refine ⟨(by show 4 ≤ sizeLine; decide), fun q hq => ?_⟩
      have s8 := same_upd (o := .tup [.int M.ls, .int M.os, .ref mv2, .ref ou2]) (Same.refl H7) hq
      refine fin _ q ⟨M.ls, M.os, rows, os⟩ (((s1.trans s6).trans s7).trans s8) ⟨mv2, ou2, rs5, upd_same, s8 _ _ (s7 _ _ e6), s8 _ _ e7, a2, fun i r w p q => s8 _ _ (s7 _ _ (a3 i r w p q))⟩ ⟨g.l1, g.l4, g.o1, g.o6, by show 1 ≤ rows.length; omega, by show rows.length ≤ 30; omega, by show os.length = rows.length; omega, fun u hu => (okr u hu).1, fun u hu z hz => by have := (okr u hu).2 z hz; show 0 ≤ z ∧ z < (rows.length : Int); rw [lr]; exact this, oko⟩ rfl rfl lr
    · refine ⟨_, rfl, .inl ⟨p, _, 41, _, rfl, rfl, SqL.of hp1, atI_get? (z := z1) (by decide) e1, _, _, rfl, rfl, (by show (0 : Int) < 4; decide), ?_⟩⟩
      refine ⟨_, _, rfl, rfl, _, rfl, ?_⟩
      refine ite2 (fun c2 => ?_) (fun c2 => ?_)
      · refine ⟨_, rfl, .inl ⟨p, _, 43, _, rfl, rfl, SqL.of hp1, atI_get? (z := z3) (by decide) e3, ?_⟩⟩
        refine ⟨_, rfl, O, _, rfl, .inl (SqL.of LO.o), ?_⟩
        rw [List.length_map, lo]
        refine ⟨_, _, rfl, rfl, (by show (0 : Int) < ((M.rows.length + e : Nat) : Int); omega), ?_⟩
        have r0 := Int.emod_nonneg z3 (show ((M.rows.length + e : Nat) : Int) ≠ 0 by omega)
        have r1 := Int.emod_lt_of_pos z3 (show (0 : Int) < ((M.rows.length + e : Nat) : Int) by omega)
        have q0 := Int.emod_nonneg z2 (show M.ls ≠ 0 by omega)
        have q1 := Int.emod_lt_of_pos z2 (show (0 : Int) < M.ls by omega)
        obtain ⟨r, rk⟩ : ∃ r, rs[st]? = some r := ⟨_, List.getElem?_eq_getElem (by rw [LO.ll.1]; omega)⟩
        obtain ⟨u, wk⟩ : ∃ u, rows[st]? = some u := ⟨_, List.getElem?_eq_getElem (by omega)⟩
        have er := LO.ll.2 st _ _ rk wk
        have ow := okr _ (List.mem_of_getElem? wk)
        have fr := LO.f2 _ (List.mem_of_getElem? rk)
        refine ⟨_, rfl, _, rfl, .inl ⟨D, _, _, .ref r, rfl, rfl, SqL.of LO.d, atI_get? (by omega) (by rw [Int.toNat_natCast]; exact rk), ?_⟩⟩
        refine ⟨_, rfl, .inl ⟨p, _, 42, _, rfl, rfl, SqL.of hp1, atI_get? (z := z2) (by decide) e2, ?_⟩⟩
        refine ⟨_, rfl, .inr (.inl ⟨m, _, 0, _, rfl, rfl, SqT.of hM1.top, rfl, _, _, rfl, rfl, (by show (0 : Int) < M.ls; omega), ?_⟩)⟩
        refine ⟨r, _, _, (z2 % M.ls).toNat, rfl, rfl, er, ixN_in (by omega) (by rw [List.length_map]; omega), ?_⟩
        rw [← List.map_set]
        have LO := LO.move (u := u.set (z2 % M.ls).toNat (z3 % ((M.rows.length + e : Nat) : Int))) rk
        have s1 := same1 (o := .lst ((u.set (z2 % M.ls).toNat (z3 % ((M.rows.length + e : Nat) : Int))).map V.int)) s1 fr
        have lr : (rows.set st (u.set (z2 % M.ls).toNat (z3 % ((M.rows.length + e : Nat) : Int)))).length = M.rows.length + e := by rw [List.length_set, lr]
        have okr : ∀ v ∈ rows.set st (u.set (z2 % M.ls).toNat (z3 % ((M.rows.length + e : Nat) : Int))), (v.length : Int) = M.ls ∧ ∀ z ∈ v, 0 ≤ z ∧ z < ((M.rows.length + e : Nat) : Int) := fun v hv => by
          rcases List.mem_or_eq_of_mem_set hv with q | q
          · exact okr v q
          · rw [q]
            refine ⟨by rw [List.length_set]; exact ow.1, fun z hz => ?_⟩
            rcases List.mem_or_eq_of_mem_set hz with q | q
            · exact ow.2 z q
            · rw [q]; exact ⟨r0, r1⟩
        clear et hp1 hM1 er wk
        generalize rows.set st (u.set (z2 % M.ls).toNat (z3 % ((M.rows.length + e : Nat) : Int))) = rows at *
        generalize upd H1 r _ = H1 at *
        dsimp only
        have hM2 := hM.same s1
        refine ⟨_, rfl, .inr (.inl ⟨m, _, 0, _, rfl, rfl, SqT.of hM2.top, rfl, ?_⟩)⟩
        refine ⟨_, rfl, .inr (.inl ⟨m, _, 1, _, rfl, rfl, SqT.of hM2.top, rfl, ?_⟩)⟩
        refine ⟨_, rfl, D, rfl, ⟨_, SqL.of LO.d⟩, fun D2 hD2 => ?_⟩
        refine lc_list (K := K) (a := D) (xs := rs.map V.ref) (fun k H' => Same H1 H' ∧ Rws H' D2 (rows.take k)) ⟨same_upd (Same.refl _) hD2, Rws.nil upd_same⟩ (fun k H' _ ⟨z, _⟩ => SqL.of (z _ _ LO.d)) ?_ ?_
        · rintro k y H5 hy ⟨s5, R5⟩
          obtain ⟨r, hr, rfl⟩ := ofV hy
          have kl : k < rows.length := by
            rw [← LO.ll.1]
            exact (List.getElem?_eq_some_iff.mp hr).1
          have ek := List.getElem?_eq_getElem kl
          have er := s5 _ _ (LO.ll.2 k r _ hr ek)
          refine ⟨rfl, ?_⟩
          refine ⟨_, rfl, r, _, rfl, .inl ⟨SqL.of er, fun t2 ht2 => ?_⟩⟩
          have s6 := same_upd (o := .tup (rows[k].map V.int)) (Same.refl H5) ht2
          obtain ⟨acc, ea, la, R6⟩ := (R5.on s6).push (r := t2) (w := rows[k]) upd_same
          refine ⟨acc, ea, ?_, same_set (s5.trans s6) hD2, ?_⟩
          · rw [la, List.length_take]
            exact Nat.lt_of_le_of_lt (by omega : min k rows.length ≤ 60) (by decide)
          · rw [take_more ek]
            exact R6
        rintro H5 ⟨s5, R5⟩
        rw [List.length_map, LO.ll.1, List.take_length] at R5
        obtain ⟨rs5, a1, a2, a3⟩ := R5
        refine ⟨D2, _, rfl, .inl ⟨SqL.of a1, fun mv2 hmv2 => ?_⟩⟩
        have s6 := same_upd (o := .tup (rs5.map V.ref)) (Same.refl H5) hmv2
        have e6 : (upd H5 mv2 (.tup (rs5.map V.ref))) mv2 = some (.tup (rs5.map V.ref)) := upd_same
        have a3 := fun i r w p q => s6 _ _ (a3 i r w p q)
        have s6 := s5.trans s6
        generalize upd H5 mv2 _ = H6 at *
        have eO := s6 _ _ LO.o
        refine ⟨_, rfl, O, _, rfl, .inl ⟨SqL.of eO, fun ou2 hou2 => ?_⟩⟩
        have s7 := same_upd (o := .tup (os.map V.int)) (Same.refl H6) hou2
        have e7 : (upd H6 ou2 (.tup (os.map V.int))) ou2 = some (.tup (os.map V.int)) := upd_same
        generalize upd H6 ou2 _ = H7 at *
        refine ⟨(by show 4 ≤ sizeLine; decide), fun q hq => ?_⟩
        have s8 := same_upd (o := .tup [.int M.ls, .int M.os, .ref mv2, .ref ou2]) (Same.refl H7) hq
        refine fin _ q ⟨M.ls, M.os, rows, os⟩ (((s1.trans s6).trans s7).trans s8) ⟨mv2, ou2, rs5, upd_same, s8 _ _ (s7 _ _ e6), s8 _ _ e7, a2, fun i r w p q => s8 _ _ (s7 _ _ (a3 i r w p q))⟩ ⟨g.l1, g.l4, g.o1, g.o6, by show 1 ≤ rows.length; omega, by show rows.length ≤ 30; omega, by show os.length = rows.length; omega, fun u hu => (okr u hu).1, fun u hu z hz => by have := (okr u hu).2 z hz; show 0 ≤ z ∧ z < (rows.length : Int); rw [lr]; exact this, oko⟩ rfl rfl lr
      · clear et hp1 hM1
        dsimp only
        have hM2 := hM.same s1
        refine ⟨_, rfl, .inr (.inl ⟨m, _, 0, _, rfl, rfl, SqT.of hM2.top, rfl, ?_⟩)⟩
        refine ⟨_, rfl, .inr (.inl ⟨m, _, 1, _, rfl, rfl, SqT.of hM2.top, rfl, ?_⟩)⟩
        refine ⟨_, rfl, D, rfl, ⟨_, SqL.of LO.d⟩, fun D2 hD2 => ?_⟩
        refine lc_list (K := K) (a := D) (xs := rs.map V.ref) (fun k H' => Same H1 H' ∧ Rws H' D2 (rows.take k)) ⟨same_upd (Same.refl _) hD2, Rws.nil upd_same⟩ (fun k H' _ ⟨z, _⟩ => SqL.of (z _ _ LO.d)) ?_ ?_
        · rintro k y H5 hy ⟨s5, R5⟩
          obtain ⟨r, hr, rfl⟩ := ofV hy
          have kl : k < rows.length := by
            rw [← LO.ll.1]
            exact (List.getElem?_eq_some_iff.mp hr).1
          have ek := List.getElem?_eq_getElem kl
          have er := s5 _ _ (LO.ll.2 k r _ hr ek)
          refine ⟨rfl, ?_⟩
          refine ⟨_, rfl, r, _, rfl, .inl ⟨SqL.of er, fun t2 ht2 => ?_⟩⟩
          have s6 := same_upd (o := .tup (rows[k].map V.int)) (Same.refl H5) ht2
          obtain ⟨acc, ea, la, R6⟩ := (R5.on s6).push (r := t2) (w := rows[k]) upd_same
          refine ⟨acc, ea, ?_, same_set (s5.trans s6) hD2, ?_⟩
          · rw [la, List.length_take]
            exact Nat.lt_of_le_of_lt (by omega : min k rows.length ≤ 60) (by decide)
          · rw [take_more ek]
            exact R6
        rintro H5 ⟨s5, R5⟩
        rw [List.length_map, LO.ll.1, List.take_length] at R5
        obtain ⟨rs5, a1, a2, a3⟩ := R5
        refine ⟨D2, _, rfl, .inl ⟨SqL.of a1, fun mv2 hmv2 => ?_⟩⟩
        have s6 := same_upd (o := .tup (rs5.map V.ref)) (Same.refl H5) hmv2
        have e6 : (upd H5 mv2 (.tup (rs5.map V.ref))) mv2 = some (.tup (rs5.map V.ref)) := upd_same
        have a3 := fun i r w p q => s6 _ _ (a3 i r w p q)
        have s6 := s5.trans s6
        generalize upd H5 mv2 _ = H6 at *
        have eO := s6 _ _ LO.o
        refine ⟨_, rfl, O, _, rfl, .inl ⟨SqL.of eO, fun ou2 hou2 => ?_⟩⟩
        have s7 := same_upd (o := .tup (os.map V.int)) (Same.refl H6) hou2
        have e7 : (upd H6 ou2 (.tup (os.map V.int))) ou2 = some (.tup (os.map V.int)) := upd_same
        generalize upd H6 ou2 _ = H7 at *
        refine ⟨(by show 4 ≤ sizeLine; decide), fun q hq => ?_⟩
        have s8 := same_upd (o := .tup [.int M.ls, .int M.os, .ref mv2, .ref ou2]) (Same.refl H7) hq
        refine fin _ q ⟨M.ls, M.os, rows, os⟩ (((s1.trans s6).trans s7).trans s8) ⟨mv2, ou2, rs5, upd_same, s8 _ _ (s7 _ _ e6), s8 _ _ e7, a2, fun i r w p q => s8 _ _ (s7 _ _ (a3 i r w p q))⟩ ⟨g.l1, g.l4, g.o1, g.o6, by show 1 ≤ rows.length; omega, by show rows.length ≤ 30; omega, by show os.length = rows.length; omega, fun u hu => (okr u hu).1, fun u hu z hz => by have := (okr u hu).2 z hz; show 0 ≤ z ∧ z < (rows.length : Int); rw [lr]; exact this, oko⟩ rfl rfl lr
end
end K25

set_option Elab.async false
set_option linter.all false
set_option maxRecDepth 100000
set_option maxHeartbeats 4000000
/-! min and max of a tuple of ints -/
namespace Mz
open PySem PySem.Spec PyProof.Rows L2
theorem alikeAll_ints (ns : List Int) : PySem.W.AlikeAll (ns.map PyData.int) := by
  refine ⟨fun x hx y hy => ?_, fun x hx => ?_⟩
  · obtain ⟨n, _, rfl⟩ := List.mem_map.mp hx
    obtain ⟨m, _, rfl⟩ := List.mem_map.mp hy
    rfl
  · obtain ⟨n, _, rfl⟩ := List.mem_map.mp hx
    exact fun z => by cases z
def rMinT (K : PySem.W.Frag) : List V → Hp → VK → Prop := fun vs H Q => ∃ (a : Addr) (n : Int) (ns : List Int), vs = [V.ref a] ∧ SqT K H a ((n :: ns).map V.int) ∧ Q (.int (ns.foldl min n)) H
def rMaxT (K : PySem.W.Frag) : List V → Hp → VK → Prop := fun vs H Q => ∃ (a : Addr) (n : Int) (ns : List Int), vs = [V.ref a] ∧ SqT K H a ((n :: ns).map V.int) ∧ Q (.int (ns.foldl max n)) H
section
variable {X : Cx}
theorem call_minT (hc : X.calm = true) (hu : X.A.units + 64 < cLine) : CallR X (.builtin "min") (rMinT X.K) := by
  intro pins s σ H vs us Q I r h
  obtain ⟨a, n, ns, rfl, hs, q⟩ := h
  obtain ⟨its, rv, hl, _⟩ := I.tuple hs
  rw [Vals.ref1 r]
  obtain ⟨as, h4⟩ := Dp.readsAll I _ _ its (dp_ints (n :: ns)) rv
  have dd := depth_ints (n :: ns)
  refine PySem.W.min_tuple_data (x := .int n) (xs := ns.map .int) (I.ok.hd hc) (show s.heap.IsTuple a its.toArray from hl) h4 (alikeAll_ints (n :: ns)) (by show X.A.units + 1 + PyData.depthAll ((n :: ns).map PyData.int) < cLine; omega) fun i v h' tk bs _ rd hk => ?_
  rw [PySem.W.minD_ints] at rd
  cases rd
  exact ⟨.int _, H, I.kept hk, ⟨_, rfl⟩, q⟩
theorem call_maxT (hc : X.calm = true) (hu : X.A.units + 64 < cLine) : CallR X (.builtin "max") (rMaxT X.K) := by
  intro pins s σ H vs us Q I r h
  obtain ⟨a, n, ns, rfl, hs, q⟩ := h
  obtain ⟨its, rv, hl, _⟩ := I.tuple hs
  rw [Vals.ref1 r]
  obtain ⟨as, h4⟩ := Dp.readsAll I _ _ its (dp_ints (n :: ns)) rv
  have dd := depth_ints (n :: ns)
  refine PySem.W.max_tuple_data (x := .int n) (xs := ns.map .int) (I.ok.hd hc) (show s.heap.IsTuple a its.toArray from hl) h4 (alikeAll_ints (n :: ns)) (by show X.A.units + 1 + PyData.depthAll ((n :: ns).map PyData.int) < cLine; omega) fun i v h' tk bs _ rd hk => ?_
  rw [PySem.W.maxD_ints] at rd
  cases rd
  exact ⟨.int _, H, I.kept hk, ⟨_, rfl⟩, q⟩
end
theorem foldl_min_le (n : Int) (ns : List Int) (k : Int) : k ≤ ns.foldl min n ↔ ∀ x ∈ n :: ns, k ≤ x := by
  induction ns generalizing n with
  | nil => simp
  | cons m ns ih =>
    rw [List.foldl_cons, ih]
    simp only [List.mem_cons, forall_eq_or_imp]
    constructor
    · intro ⟨h1, h2⟩
      exact ⟨by omega, by omega, h2⟩
    · intro ⟨h1, h2, h3⟩
      exact ⟨by omega, h3⟩
theorem foldl_max_le (n : Int) (ns : List Int) (k : Int) : ns.foldl max n ≤ k ↔ ∀ x ∈ n :: ns, x ≤ k := by
  induction ns generalizing n with
  | nil => simp
  | cons m ns ih =>
    rw [List.foldl_cons, ih]
    simp only [List.mem_cons, forall_eq_or_imp]
    constructor
    · intro ⟨h1, h2⟩
      exact ⟨by omega, by omega, h2⟩
    · intro ⟨h1, h2, h3⟩
      exact ⟨by omega, h3⟩
end Mz

set_option Elab.async false
set_option linter.all false
set_option maxRecDepth 100000
set_option maxHeartbeats 4000000
/-! ranks and trees -/
namespace Mz
open PySem PySem.Spec PyProof.Rows L2
theorem inVI (c : Int) (ns : List Int) : inV (.int c) (ns.map V.int) = decide (c ∈ ns) := by
  unfold inV
  rw [List.any_map]
  induction ns with
  | nil => simp
  | cons n ns ih =>
    rw [List.any_cons, ih]
    have e : ((fun y => eqV y (V.int c)) ∘ V.int) n = decide (n = c) := by
      show eqV (V.int n) (V.int c) = _
      simp only [eqV]
      by_cases h : n = c <;> simp [h]
    rw [e]
    by_cases h : n = c
    · simp [h]
    · have h2 : ¬ c = n := fun z => h z.symm
      simp [h, h2]
theorem flatI (ns : List Int) : (ns.map V.int).all flatV = true := by
  rw [List.all_eq_true]
  intro x hx
  obtain ⟨n, _, rfl⟩ := List.mem_map.mp hx
  rfl
/-- what is lacking behind the symbols -/
def lackG (rs : List Int) : List Int → Int → Option Int
  | [], n => some n
  | s :: t, n => if n = 0 then none else lackG rs t (n + (rs.getD s.toNat 0 - 1))
/-- a tree over the ranks -/
def treeB (rs t : List Int) : Bool := decide (t.length ≤ 400) && belowB t rs.length && (lackG rs t 1 == some 0)
/-- ranks -/
def ranksB (rs : List Int) : Bool := decide (1 ≤ rs.length) && decide (rs.length ≤ 5) && belowB rs 3 && decide (0 ∈ rs)
theorem lack_drop {rs t : List Int} {i : Nat} {s n : Int} (h : t[i]? = some s) (e : lackG rs t 1 = lackG rs (t.drop i) n) : (n = 0 → lackG rs t 1 = none) ∧ (n ≠ 0 → lackG rs t 1 = lackG rs (t.drop (i + 1)) (n + (rs.getD s.toNat 0 - 1))) := by
  have hd : t.drop i = s :: t.drop (i + 1) := by
    obtain ⟨lt, e⟩ := List.getElem?_eq_some_iff.mp h
    rw [List.drop_eq_getElem_cons lt, e]
  rw [hd] at e
  constructor
  · intro z
    rw [e, lackG, if_pos z]
  · intro z
    rw [e, lackG, if_neg z]
theorem below_at {ns : List Int} {L z : Int} {i : Nat} (h : belowB ns L = true) (e : ns[i]? = some z) : 0 ≤ z ∧ z < L := below_iff.mp h z (List.mem_of_getElem? e)
theorem getD_at {rs : List Int} {z : Int} (h0 : 0 ≤ z) (h1 : z < rs.length) : rs[z.toNat]? = some (rs.getD z.toNat 0) := by
  have lt : z.toNat < rs.length := by omega
  rw [List.getD_eq_getElem?_getD, List.getElem?_eq_getElem lt]
  rfl
theorem dec_intB (x y : Int) : decide (V.int x = V.int y) = (some x == some y) := by
  by_cases h : x = y <;> simp [h]
theorem Kp.seqT {Pt : Addr} {H H' : Hp} {K : PySem.W.Frag} {a : Addr} {xs : List V} (t : GxR.TabG H Pt) (k : Kp Pt H H') (h : SqT K H a xs) : SqT K H' a xs := by
  rcases h with (h | ⟨o, h⟩) | h
  · exact .inl (.inl (k.keep _ _ (tab_ne t h (fun ps z => by cases z)) h))
  · exact .inl (.inr ⟨o, k.keep _ _ (tab_ne t h (fun ps z => by cases z)) h⟩)
  · exact .inr h
theorem ixN_inR {n : Nat} {k : Int} (h0 : 0 ≤ k) (h1 : k < n) : ixN n k = some k.toNat := by
  unfold ixN
  rw [if_pos h0, if_pos h1]
theorem mem_set_self {l : List Int} {j : Nat} {x : Int} (h : j < l.length) : x ∈ l.set j x := List.mem_iff_getElem?.mpr ⟨j, List.getElem?_set_self h⟩
theorem mem_set_or {l : List Int} {j : Nat} {x z : Int} (h : z ∈ l.set j x) : z ∈ l ∨ z = x := List.mem_or_eq_of_mem_set h
theorem same_seqT {H H' : Hp} {K : PySem.W.Frag} {a : Addr} {xs : List V} (k : Same H H') (h : SqT K H a xs) : SqT K H' a xs := by
  rcases h with (h | ⟨o, h⟩) | h
  · exact .inl (.inl (k _ _ h))
  · exact .inl (.inr ⟨o, k _ _ h⟩)
  · exact .inr h
theorem dec_intD (x y : Int) : decide (V.int x = V.int y) = decide (x = y) := by simp
theorem seqIxR {n : Nat} {i : Int} (h0 : 0 ≤ i) (h1 : i < n) : seqIndex? i n = some i.toNat := by
  have e := ixN_inR h0 h1
  exact (ixN_seq e).1
theorem ofInts : ∀ {xs : List V}, (∀ x ∈ xs, ∃ z : Int, x = .int z) → ∃ us : List Int, xs = us.map V.int ∧ us.length = xs.length
  | [], _ => ⟨[], rfl, rfl⟩
  | x :: xs, h => by
    obtain ⟨z, rfl⟩ := h x List.mem_cons_self
    obtain ⟨us, e, l⟩ := ofInts (xs := xs) fun y hy => h y (List.mem_cons_of_mem _ hy)
    exact ⟨z :: us, by rw [e]; rfl, by show us.length + 1 = xs.length + 1; omega⟩
theorem intsMem {ns : List Int} {x : V} (h : x ∈ ns.map V.int) : ∃ z : Int, x = .int z := by
  obtain ⟨n, _, e⟩ := List.mem_map.mp h
  exact ⟨n, e.symm⟩
theorem cutMem {xs : List V} {lo hi : Option Int} {x : V} (h : x ∈ cutV xs lo hi) : x ∈ xs := by
  unfold cutV at h
  exact List.mem_of_mem_drop (List.mem_of_mem_take h)
theorem sIx_at {n d : Nat} {i : Int} (h0 : 0 ≤ i) (h1 : i ≤ n) : HT.sIx n d (some i) = i.toNat := by
  have e : i = ((i.toNat : Nat) : Int) := by omega
  rw [e, HT.sIx_nat]
  omega
theorem cut_take {xs : List V} {i : Int} (h0 : 0 ≤ i) (h1 : i ≤ xs.length) : cutV xs none (some i) = xs.take i.toNat := by
  unfold cutV
  rw [HT.sIx_none, sIx_at h0 h1, List.drop_zero, Nat.sub_zero]
theorem cut_drop {xs : List V} {i : Int} (h0 : 0 ≤ i) (h1 : i ≤ xs.length) : cutV xs (some i) none = xs.drop i.toNat := by
  unfold cutV
  rw [HT.sIx_none, sIx_at h0 h1, List.take_of_length_le (by rw [List.length_drop]; exact Nat.le_refl _)]
theorem cut_mid {xs : List V} {i j : Int} (h0 : 0 ≤ i) (h1 : i ≤ j) (h2 : j ≤ xs.length) : cutV xs (some i) (some j) = (xs.drop i.toNat).take (j.toNat - i.toNat) := by
  unfold cutV
  rw [sIx_at h0 (by omega), sIx_at (by omega) h2]
end Mz

set_option Elab.async false
set_option linter.all false
set_option maxRecDepth 100000
set_option maxHeartbeats 4000000
namespace K25
open PySem PySem.Spec PyProof.Rows L2 Mz
theorem ifJoin {c : Bool} {A : Prop} {D : Ends} {σ : L2.St} {H : Hp} (Mid : L2.St → Hp → Prop) (h1 : c = true → (∀ σ' H', Mid σ' H' → D.nx σ' H') → A) (h2 : c = false → Mid σ H) (h : ∀ σ' H', Mid σ' H' → D.nx σ' H') : if c = true then A else tNext D σ H := by
  cases c with
  | true => exact (if_pos rfl).mpr (h1 rfl h)
  | false => exact h _ _ (h2 rfl)
theorem ifAnd {b : Bool} {X A : Prop} {D : Ends} {σ : L2.St} {H : Hp} (Mid : L2.St → Hp → Prop) (h1 : b = true → (∀ σ' H', Mid σ' H' → D.nx σ' H') → X) (h2 : b = false → Mid σ H) (h : ∀ σ' H', Mid σ' H' → D.nx σ' H') : if b = true then X else (if false = true then A else tNext D σ H) := by
  cases b with
  | true => exact (if_pos rfl).mpr (h1 rfl h)
  | false => exact h _ _ (h2 rfl)
theorem most1 : ∀ n : Nat, n < 7 → ∀ e : Nat, e < 9 → mostW ((1 : Nat) : Int) (n : Int) e ≤ 4000 := by decide +kernel
theorem most2 : ∀ n : Nat, n < 7 → ∀ e : Nat, e < 3 → mostW ((2 : Nat) : Int) (n : Int) e ≤ 4000 := by decide +kernel
theorem most3 : ∀ n : Nat, n < 7 → ∀ e : Nat, e < 2 → mostW ((3 : Nat) : Int) (n : Int) e ≤ 4000 := by decide +kernel
theorem fit_of {k : Int} {ns : List Int} (h : Lt k ns) (l : ns.length ≤ 400) : fitB k ns = true := by
  unfold fitB
  rw [decide_eq_true (by omega), below_iff.mpr h]
  rfl
theorem num {ms : List Int} (h : Nums ms 340) (i : Nat) (hi : i < 340) : ∃ z, ms[i]? = some z ∧ 0 ≤ z := by
  have l := h.len
  have il : i < ms.length := by omega
  exact ⟨ms[i], List.getElem?_eq_getElem il, (h.ok _ (List.getElem_mem il)).1⟩
theorem sim_outs {M N : Mach} (s : Sim M N 0 0) {w : List Int} (h : Lt M.ls w) : outsA M 0 w = outsA N 0 w := outs_eq.mpr fun i _ => s _ fun z hz => h z (List.mem_of_mem_take hz)
theorem K2.same {P1 P2 : Addr} {H H' H2 : Hp} (k : K2 P1 P2 H H') (s : Same H' H2) : K2 P1 P2 H H2 :=
  ⟨by obtain ⟨ps, q, r⟩ := k.t1; exact ⟨ps, s _ _ q, r⟩, by obtain ⟨ps, q, r⟩ := k.t2; exact ⟨ps, s _ _ q, r⟩, fun b u h1 h2 q => s _ _ (k.keep b u h1 h2 q)⟩
theorem K2.trans {P1 P2 : Addr} {H H' H2 : Hp} (k : K2 P1 P2 H H') (s : K2 P1 P2 H' H2) : K2 P1 P2 H H2 := ⟨s.t1, s.t2, fun b u h1 h2 q => s.keep b u h1 h2 (k.keep b u h1 h2 q)⟩
def spLaw (K : PySem.W.Frag) (P1 P2 : Addr) : Sp := fun vs H Q _ => ∃ (a : Addr) (ns : List Int), vs = [.ref a] ∧ SqL K H a (ns.map V.int) ∧ ns.length ≤ 63 ∧ GxR.TabG H P1 ∧ GxR.TabG H P2 ∧ ∀ H', Q (.bl true) H'
section
variable {P : Program} {w : World} {K : PySem.W.Frag} {mg : Str → Option Value} {base : Heap} {A : Ads} {P1 P2 : Addr}
theorem ok_law (T : Txt K mg A) (h12 : P1 ≠ P2) (G_are_told : FnOk P w K mg base (L2N.CX P w) 5 A.a_are_told A.d_are_told ["words", "first", "second"] (spTold A P1 P2)) : FnOk P w K mg base CX0 6 A.a_law A.d_law ["script"] (spLaw K P1 P2) := by
  have G_law_numbers : FnOk P w K mg base CX0 1 A.a_law_numbers A.d_law_numbers ["script", "many"] (spNumbers K) := ok_numbers T
  have G_law_machine : FnOk P w K mg base CX0 1 A.a_law_machine A.d_law_machine ["numbers", "at", "letters", "outs", "states"] (spMachine K) := ok_machine T
  have G_law_lock : FnOk P w K mg base CX0 1 A.a_law_lock A.d_law_lock ["numbers", "letters", "states"] spLock := ok_lock T
  have G_law_late : FnOk P w K mg base CX0 1 A.a_law_late A.d_law_late ["small", "states"] spLate := ok_late T
  have G_law_spoilt : FnOk P w K mg base CX0 2 A.a_law_spoilt A.d_law_spoilt ["machine", "numbers", "extra"] spSpoilt := ok_spoilt T
  have G_law_least : FnOk P w K mg base CX0 2 A.a_law_least A.d_law_least ["machine"] (spLeastL K) := ok_leastl T
  have G_suite_words : FnOk P w K mg base (L2N.CX P w) 5 A.a_suite_words A.d_suite_words ["machine", "extra"] (spSuite A) := ok_suite T
  have G_law_along : FnOk P w K mg base CX0 1 A.a_law_along A.d_law_along ["machine", "state", "word"] spAlong := ok_along T
  have G_law_differ : FnOk P w K mg base CX0 1 A.a_law_differ A.d_law_differ ["first", "second"] spDiffer := ok_differ T
  refine T.F_law.ok sc_law (fun vs H Q E h => ?_) (fun cdv Ar outer s H vs Q E hr h => ?_)
  · obtain ⟨_, _, rfl, _⟩ := h
    rfl
  · obtain ⟨a, ns, rfl, hS, l63, t1, t2, fin⟩ := h
    have hr_law_numbers : Room 1 _ := hr.mono (by decide)
    have hr_law_machine : Room 1 _ := hr.mono (by decide)
    have hr_law_lock : Room 1 _ := hr.mono (by decide)
    have hr_law_late : Room 1 _ := hr.mono (by decide)
    have hr_law_spoilt : Room 2 _ := hr.mono (by decide)
    have hr_law_least : Room 2 _ := hr.mono (by decide)
    have hr_suite_words : Room 5 _ := hr
    have hr_are_told : Room 5 _ := hr
    have hr_law_along : Room 1 _ := hr.mono (by decide)
    have hr_law_differ : Room 1 _ := hr.mono (by decide)
    refine ⟨_, (pss_cons (ps_set (i := 1) sc_law.nd rfl (Or.inl rfl) (pe_call G_law_numbers hr_law_numbers (by rfl) T.g_law_numbers T.F_law_numbers.kp T.b_law_numbers .nil pass0 (pa_cons (pv 0) (pa_cons pe_int pa_nil))))
      (pss_cons (ps_set (i := 2) sc_law.nd rfl (Or.inl rfl) (pe_op op_add pe_int (pe_op op_mod (pe_ix (r := rIx K) ix_seq (pv 1) pe_int (fun _ _ => rfl)) pe_int)))
      (pss_cons (ps_set (i := 3) sc_law.nd rfl (Or.inl rfl) (pe_call G_law_machine hr_law_machine (by rfl) T.g_law_machine T.F_law_machine.kp T.b_law_machine .nil pass0 (pa_cons (pv 1) (pa_cons pe_int (pa_cons (pv 2) (pa_cons (pe_op op_add pe_int (pe_op op_mod (pe_ix (r := rIx K) ix_seq (pv 1) pe_int (fun _ _ => rfl)) pe_int)) (pa_cons (pe_op op_add pe_int (pe_op op_mod (pe_ix (r := rIx K) ix_seq (pv 1) pe_int (fun _ _ => rfl)) pe_int)) pa_nil)))))))
      (pss_cons (ps_if (pt_cmpR op_eq (pe_op op_mod (pe_op op_fdiv (pe_ix (r := rIx K) ix_seq (pv 1) pe_int (fun _ _ => rfl)) pe_int) pe_int) pe_int (nomark _)) (pss_one (ps_set (i := 3) sc_law.nd rfl (Or.inl rfl) (pe_call G_law_lock hr_law_lock (by rfl) T.g_law_lock T.F_law_lock.kp T.b_law_lock .nil pass0 (pa_cons (pe_slice sl_list (pv 1) (po_some pe_int) (po_some pe_int)) (pa_cons (pv 2) (pa_cons (pe_op op_add pe_int (pe_op op_mod (pe_ix (r := rIx K) ix_seq (pv 1) pe_int (fun _ _ => rfl)) pe_int)) pa_nil)))))) pss_nil)
      (pss_cons (ps_set (i := 4) sc_law.nd rfl (Or.inl rfl) (pe_op op_mod (pe_ix (r := rIx K) ix_seq (pv 1) pe_int (fun _ _ => rfl)) pe_int))
      (pss_cons (ps_if (PW.pt (pw_and (pt_cmpR op_eq (pv 2) pe_int (nomark _)) (pw_and1 (pt_cmpR op_eq (pv 4) pe_int (nomark _))))) (pss_one (ps_set (i := 4) sc_law.nd rfl (Or.inl rfl) pe_int)) pss_nil)
      (pss_cons (ps_set (i := 5) sc_law.nd rfl (Or.inr rfl) (pe_call G_law_least hr_law_least (by rfl) T.g_law_least T.F_law_least.kp T.b_law_least .nil pass0 (pa_cons (pv 3) pa_nil)))
      (pss_cons (ps_if (PW.pt (pw_and (pt_cmpR op_eq (pv 2) pe_int (nomark _)) (pw_and1 (pt_cmpR op_gt (pe_op op_mod (pe_ix (r := rIx K) ix_seq (pv 1) pe_int (fun _ _ => rfl)) pe_int) pe_int (nomark _))))) (pss_one (ps_set (i := 4) sc_law.nd rfl (Or.inl rfl) (pe_op op_add pe_int (pe_op op_mod (pe_op op_fdiv (pe_ix (r := rIx K) ix_seq (pv 1) pe_int (fun _ _ => rfl)) pe_int) pe_int)))) pss_nil)
      (pss_cons (ps_set (i := 6) sc_law.nd rfl (Or.inr rfl) (pe_call G_suite_words hr_suite_words (by rfl) T.g_suite_words T.F_suite_words.kp T.b_suite_words .nil passN (pa_cons (pv 3) (pa_cons (pv 4) pa_nil))))
      (pss_cons (ps_set (i := 7) sc_law.nd rfl (Or.inr rfl) (pe_lc (own := [("word", 11)]) (g := (gName 11)) (tt := tYes) rfl sc_law.nd (pi_list (pv 6)) (blkOk_by (N := ["script", "numbers", "letters", "machine", "extra", "small", "words", "along", "k", "other", "told", "word", "j"]) (sc := defScope s_law) (by decide +kernel)) (fun _ _ _ _ _ => (pg_name (i := 11) sc_law.nd rfl (Or.inl rfl))) (fun _ _ _ _ _ => pts_nil) (fun _ _ _ _ _ => (pe_call G_law_along hr_law_along (by rfl) T.g_law_along T.F_law_along.kp T.b_law_along .nil pass0 (pa_cons (pv 5) (pa_cons pe_int (pa_cons (pv 11) pa_nil)))))))
      (pss_cons (ps_for PassesOwn.never rfl (pi_range1 (by rfl) T.n_range (pa_cons pe_int pa_nil)) (pg_name (i := 8) sc_law.nd rfl (Or.inl rfl))
        (pss_cons (ps_set (i := 9) sc_law.nd rfl (Or.inr rfl) (pe_call G_law_spoilt hr_law_spoilt (by rfl) T.g_law_spoilt T.F_law_spoilt.kp T.b_law_spoilt .nil pass0 (pa_cons (pv 5) (pa_cons (pe_slice sl_list (pv 1) (po_some (pe_op op_add pe_int (pe_op op_mul pe_int (pv 8)))) (po_some (pe_op op_add pe_int (pe_op op_mul pe_int (pv 8))))) (pa_cons (pv 4) pa_nil)))))
          (pss_cons (ps_if (PW.pt (pw_and (pt_cmpR op_eq (pv 8) pe_int (nomark _)) (pw_and1 (pt_cmpR op_eq (pv 2) pe_int (nomark _))))) (pss_one (ps_set (i := 9) sc_law.nd rfl (Or.inr rfl) (pe_call G_law_late hr_law_late (by rfl) T.g_law_late T.F_law_late.kp T.b_law_late .nil pass0 (pa_cons (pv 5) (pa_cons (pe_op op_add (pe_callB call_len_seq (by rfl) T.n_len PySem.boot_len (pa_cons (pe_ix (r := rIx K) ix_seq (pv 5) pe_int (fun _ _ => rfl)) pa_nil)) (pv 4)) pa_nil))))) pss_nil)
          (pss_cons (ps_set (i := 10) sc_law.nd rfl (Or.inl rfl) (pe_callB (cr_any rfl) (by rfl) T.n_any (by decide +kernel) (pa_cons (pe_lc (own := [("j", 12)]) (g := (gName 12)) (tt := tYes) rfl sc_law.nd (pi_range1 (by rfl) T.n_range (pa_cons (pe_callB call_len_seq (by rfl) T.n_len PySem.boot_len (pa_cons (pv 6) pa_nil)) pa_nil)) (blkOk_by (N := ["script", "numbers", "letters", "machine", "extra", "small", "words", "along", "k", "other", "told", "word", "j"]) (sc := defScope s_law) (by decide +kernel)) (fun _ _ _ _ _ => (pg_name (i := 12) sc_law.nd rfl (Or.inl rfl))) (fun _ _ _ _ _ => pts_nil) (fun _ _ _ _ _ => (pe_cmpR (r := rNeD K) (op_neD hr.units) (pe_call G_law_along hr_law_along (by rfl) T.g_law_along T.F_law_along.kp T.b_law_along .nil pass0 (pa_cons (pv 9) (pa_cons pe_int (pa_cons (pe_ix (r := rIx K) ix_seq (pv 6) (pv 12) (fun _ _ => rfl)) pa_nil)))) (pe_ix (r := rIx K) ix_seq (pv 7) (pv 12) (fun _ _ => rfl)) (nomark _)))) pa_nil)))
          (pss_one (ps_if (PW.pt (pw_or (pt_cmpR op_ne (pv 10) (pe_call G_law_differ hr_law_differ (by rfl) T.g_law_differ T.F_law_differ.kp T.b_law_differ .nil pass0 (pa_cons (pv 5) (pa_cons (pv 9) pa_nil))) (nomark _)) (pw_or1 (pt_cmpR op_ne (pe_call G_are_told hr_are_told (by rfl) T.g_are_told T.F_are_told.kp T.b_are_told .nil passN (pa_cons (pv 6) (pa_cons (pv 3) (pa_cons (pv 9) pa_nil)))) (pv 10) (nomark _))))) (pss_one (ps_ret pe_bl)) pss_nil))))))
      (pss_one (ps_ret pe_bl))))))))))))), ?_⟩
    refine ⟨_, rfl, a, ns, 340, rfl, hS, l63, by decide, by decide, fun ms H1 p hm s1 _ hp => ?_⟩
    obtain ⟨z0, e0, p0⟩ := num hm 0 (by decide)
    obtain ⟨z1, e1, p1⟩ := num hm 1 (by decide)
    obtain ⟨z2, e2, p2⟩ := num hm 2 (by decide)
    obtain ⟨z3, e3, p3⟩ := num hm 3 (by decide)
    obtain ⟨z4, e4, p4⟩ := num hm 4 (by decide)
    refine ⟨_, rfl, .inl ⟨p, _, 0, _, rfl, rfl, SqL.of hp, atI_get? (z := z0) (by decide) e0, _, _, rfl, rfl, (by show (0 : Int) < 3; decide), _, _, rfl, rfl, ?_⟩⟩
    obtain ⟨L, eL, l1, l2⟩ : ∃ L : Nat, 1 + z0 % 3 = (L : Int) ∧ 1 ≤ L ∧ L ≤ 3 := ⟨(1 + z0 % 3).toNat, by omega, by omega, by omega⟩
    obtain ⟨n, en, n1, n6⟩ : ∃ n : Nat, 1 + z2 % 6 = (n : Int) ∧ 1 ≤ n ∧ n ≤ 6 := ⟨(1 + z2 % 6).toNat, by omega, by omega, by omega⟩
    dsimp only
    rw [eL]
    refine ⟨_, rfl, _, rfl, _, rfl, .inl ⟨p, _, 1, _, rfl, rfl, SqL.of hp, atI_get? (z := z1) (by decide) e1, _, _, rfl, rfl, (by show (0 : Int) < 2; decide), _, _, rfl, rfl, ?_⟩⟩
    refine ⟨_, rfl, .inl ⟨p, _, 2, _, rfl, rfl, SqL.of hp, atI_get? (z := z2) (by decide) e2, _, _, rfl, rfl, (by show (0 : Int) < 6; decide), _, _, rfl, rfl, ?_⟩⟩
    refine ⟨p, ms, 10, L, 2 + z1 % 2, 1 + z2 % 6, rfl, SqL.of hp, by have := hm.len; omega, ⟨by omega, by omega⟩, ⟨by omega, by omega⟩, ⟨by omega, by omega⟩, fun M H2 m g q1 q2 q3 s2 hM fm => ?_⟩
    have hp2 := s2 _ _ hp
    refine ⟨_, rfl, .inl ⟨p, _, 1, _, rfl, rfl, SqL.of hp2, atI_get? (z := z1) (by decide) e1, ?_⟩⟩
    refine ⟨_, _, rfl, rfl, ⟨by decide, by decide⟩, _, _, rfl, rfl, (by show (0 : Int) < 3; decide), rfl, _, rfl, ?_⟩
    have s02 := s1.trans s2
    refine ifJoin (fun σ H' => ∃ (m : Addr) (M : Mach), σ = [some (.ref a), some (.ref p), some (.int (L : Int)), some (.ref m), none, none, none, none, none, none, none, none, none] ∧ MA H' m M ∧ Good M ∧ M.ls = (L : Int) ∧ M.rows.length ≤ 6 ∧ Same H H' ∧ H' p = some (.lst (ms.map V.int))) (fun c nx => ?_) (fun c => ⟨m, M, rfl, hM, g, q1, by omega, s02, hp2⟩) ?_
    · refine ⟨_, rfl, _, rfl, _, rfl, p, _, rfl, SqL.of hp2, fun g1 h1 => ?_⟩
      have hml := hm.len
      have cut : cutV (ms.map V.int) (some 10) (some 40) = ((ms.drop 10).take 30).map V.int := by
        rw [cut_mid (by decide) (by decide) (by rw [List.length_map]; omega), List.map_take, List.map_drop]
        rfl
      rw [cut]
      have sA := same_upd (o := .lst (((ms.drop 10).take 30).map V.int)) (Same.refl H2) h1
      have eA : (upd H2 g1 (.lst (((ms.drop 10).take 30).map V.int))) g1 = some (.lst (((ms.drop 10).take 30).map V.int)) := upd_same
      generalize upd H2 g1 (.lst (((ms.drop 10).take 30).map V.int)) = HA at *
      refine ⟨_, rfl, _, rfl, .inl ⟨p, _, 2, _, rfl, rfl, SqL.of (sA _ _ hp2), atI_get? (z := z2) (by decide) e2, _, _, rfl, rfl, (by show (0 : Int) < 6; decide), _, _, rfl, rfl, ?_⟩⟩
      refine ⟨g1, (ms.drop 10).take 30, L, n, congrArg (fun z => [V.ref g1, V.int (L : Int), V.int z]) en, eA, by rw [List.length_take, List.length_drop]; omega, l1, by omega, n1, by omega, fun HB m2 M2 sB hM2 gM2 r1 r2 r3 => ?_⟩
      exact nx _ _ ⟨m2, M2, rfl, hM2, gM2, r1, by omega, s02.trans (sA.trans sB), sB _ _ (sA _ _ hp2)⟩
    clear hM fm q1 q2 q3 g hp2 s02 s2 hp
    rintro σ H2 ⟨m, M, rfl, hM, g, q1, q3, s2, hp⟩
    refine ⟨_, rfl, .inl ⟨p, _, 3, _, rfl, rfl, SqL.of hp, atI_get? (z := z3) (by decide) e3, _, _, rfl, rfl, (by show (0 : Int) < 3; decide), ?_⟩⟩
    refine ⟨_, rfl, rfl, _, rfl, ?_⟩
    refine ifAnd (fun σ H' => H' = H2 ∧ ∃ x : Nat, σ = [some (.ref a), some (.ref p), some (.int (L : Int)), some (.ref m), some (.int (x : Int)), none, none, none, none, none, none, none, none] ∧ x ≤ 2 ∧ (L = 3 → x ≤ 1)) (fun c nx => ?_) (fun c => ⟨rfl, (z3 % 3).toNat, ?_, by omega, fun q => ?_⟩) ?_
    · refine ⟨_, rfl, rfl, _, rfl, ?_⟩
      refine ifJoin _ (fun c2 nx => ?_) (fun c2 => ⟨rfl, (z3 % 3).toNat, ?_, by omega, fun q => ?_⟩) nx
      · exact nx _ _ ⟨rfl, 1, rfl, by decide, fun _ => by decide⟩
      · rw [Int.toNat_of_nonneg (by omega)]
        rfl
      · have c2 := of_decide_eq_false c2
        have : z3 % 3 ≠ 2 := fun z => c2 (congrArg V.int z)
        omega
    · rw [Int.toNat_of_nonneg (by omega)]
      rfl
    · exact absurd (congrArg (fun z : Nat => V.int (z : Int)) q) (of_decide_eq_false c)
    rintro σ H2' ⟨rfl, x, rfl, x2, x3⟩
    refine ⟨_, rfl, m, M, rfl, hM, g, fun H4 sm G s4 _ r hS4 => ?_⟩
    have eLq : ∀ G', Rep (EqM M) M.rows.length G' → leastBy M G' (ordAt M G' M.rows.length) = leastBy M G (ordAt M G M.rows.length) := fun G' r' => by rw [rep_uniq r' r]
    have F := least_isfull g r
    have sim0 := leastBy_sim g r
    have ls : (leastBy M G (ordAt M G M.rows.length)).ls = M.ls := rfl
    have os : (leastBy M G (ordAt M G M.rows.length)).os = M.os := rfl
    have few : (leastBy M G (ordAt M G M.rows.length)).rows.length ≤ M.rows.length := by
      rw [leastBy_len]
      exact ord_len g r _
    generalize leastBy M G (ordAt M G M.rows.length) = L0 at *
    have gL := F.good
    have n30 := gL.s30
    have m1 := gL.s1
    have el0 : L0.ls = (L : Int) := ls.trans q1
    have hp4 := s4 _ _ hp
    have hM4 := hM.same s4
    refine ⟨_, rfl, rfl, _, rfl, ?_⟩
    refine ifAnd (fun σ H' => H' = H4 ∧ ∃ e : Nat, σ = [some (.ref a), some (.ref p), some (.int (L : Int)), some (.ref m), some (.int (e : Int)), some (.ref sm), none, none, none, none, none, none, none] ∧ ((L = 1 ∧ e ≤ 8) ∨ (L = 2 ∧ e ≤ 2) ∨ (L = 3 ∧ e ≤ 1))) (fun c nx => ?_) (fun c => ⟨rfl, x, rfl, ?_⟩) ?_
    · have l1 : L = 1 := by have := of_decide_eq_true c; injection this; omega
      refine ⟨_, rfl, .inl ⟨p, _, 4, _, rfl, rfl, SqL.of hp4, atI_get? (z := z4) (by decide) e4, _, _, rfl, rfl, (by show (0 : Int) < 3; decide), _, _, rfl, rfl, _, rfl, ?_⟩⟩
      refine ifJoin _ (fun c2 nx => ?_) (fun c2 => ⟨rfl, x, rfl, .inl ⟨l1, by omega⟩⟩) nx
      refine ⟨_, rfl, .inl ⟨p, _, 4, _, rfl, rfl, SqL.of hp4, atI_get? (z := z4) (by decide) e4, _, _, rfl, rfl, ⟨by decide, by decide⟩, _, _, rfl, rfl, (by show (0 : Int) < 6; decide), _, _, rfl, rfl, ?_⟩⟩
      refine nx _ _ ⟨rfl, (3 + z4 / 3 % 6).toNat, ?_, .inl ⟨l1, by omega⟩⟩
      rw [Int.toNat_of_nonneg (by omega)]
      rfl
    · have : L ≠ 1 := fun q => absurd (congrArg (fun z : Nat => V.int (z : Int)) q) (of_decide_eq_false c)
      rcases (show L = 2 ∨ L = 3 by omega) with q | q
      · exact .inr (.inl ⟨q, x2⟩)
      · exact .inr (.inr ⟨q, x3 q⟩)
    rintro σ H4' ⟨rfl, e, rfl, eb⟩
    have e8 : e ≤ 8 := by omega
    refine ⟨_, rfl, _, rfl, m, M, (e : Int), rfl, hM4, g, fun G' r' => ?_⟩
    rw [eLq G' r', el0, Int.toNat_natCast]
    have small : mostW (L : Int) (L0.rows.length : Int) e ≤ 4000 := by
      have lo : L0.rows.length < 7 := by omega
      rcases eb with ⟨q, b⟩ | ⟨q, b⟩ | ⟨q, b⟩ <;> subst q
      · exact most1 _ lo _ (by omega)
      · exact most2 _ lo _ (by omega)
      · exact most3 _ lo _ (by omega)
    refine ⟨fun H7 s7 c => by exfalso; omega, fun H5 wp ts ws s5 _ _ le ew ll su => ?_⟩
    have lts : (ts.map V.ref).length = ws.length := by rw [List.length_map, ll.1]
    have fw := su.few
    rw [el0] at fw
    have hS5 := hS4.same s5
    obtain ⟨W, tl, iff⟩ := su.mem
    have lw : ∀ v ∈ ws, Lt L0.ls v ∧ v.length ≤ 100 := fun v hv => by
      obtain ⟨h, hh, mm, hmm, t', ht', ev⟩ := (iff v).mp hv
      obtain ⟨hl, hlen⟩ := head_ok F hh
      obtain ⟨mlen, ml2⟩ := mids_mem.mp hmm
      obtain ⟨tl2, tlen⟩ := tl.ok t' ht'
      rw [Int.toNat_of_nonneg (by omega)] at ml2
      refine ⟨fun z hz => ?_, by rw [ev, List.length_append, List.length_append]; omega⟩
      rw [ev] at hz
      rcases List.mem_append.mp hz with q | q
      · rcases List.mem_append.mp q with q | q
        · exact hl z q
        · exact ml2 z q
      · exact tl2 z q
    refine ⟨_, rfl, wp, rfl, ⟨_, SqL.of ew⟩, fun D hD => ?_⟩
    refine lc_list (K := K) (a := wp) (xs := ts.map V.ref) (fun k H' => Same H5 H' ∧ ∃ us : List Addr, H' D = some (.lst (us.map V.ref)) ∧ LLd H' us ((ws.take k).map fun v => outsA L0 0 v) D) ⟨same_upd (Same.refl _) hD, [], upd_same, LLd.nil⟩ (fun k H' _ ⟨z, _⟩ => SqL.of (z _ _ ew)) ?_ ?_
    · rintro k y H6 hy ⟨s6, us, e6, l6⟩
      obtain ⟨t, ht, rfl⟩ := ofV hy
      have kl : k < ws.length := by
        rw [← ll.1]
        exact (List.getElem?_eq_some_iff.mp ht).1
      have ewk := List.getElem?_eq_getElem kl
      have et := s6 _ _ (ll.2 k t _ ht ewk)
      obtain ⟨lv, len⟩ := lw _ (List.mem_of_getElem? ewk)
      refine ⟨rfl, ?_⟩
      refine ⟨_, rfl, _, rfl, sm, t, L0, 0, _, rfl, hS5.same s6, gL, gL.st0, et, lv, by omega, fun H7 o s7 fo eo => ?_⟩
      have oD : o ≠ D := fun z => by rw [z, e6] at fo; cases fo
      have lu := l6.1.1
      rw [List.length_map, List.length_take] at lu
      refine ⟨_, s7 _ _ e6, ?_, same_set (s6.trans s7) hD, us ++ [o], by rw [upd_same, List.map_append]; rfl, ?_⟩
      · rw [List.length_map]
        exact Nat.lt_of_le_of_lt (by omega : us.length ≤ 5000) (by decide)
      · rw [take_more ewk, List.map_append]
        exact (l6.same s7).push eo oD _
    rintro H6 ⟨s6, us, e6, l6⟩
    rw [lts, List.take_length] at l6
    have s56 := ((s2.trans s4).trans s5).trans s6
    have hS6 := hS5.same s6
    have hM6 := (hM4.same s5).same s6
    have ew6 := s6 _ _ ew
    have ll6 := ll.same s6
    have hp6 := s6 _ _ (s5 _ _ hp4)
    have t1 := (Kp.of t1 s56).tab
    have t2 := (Kp.of t2 s56).tab
    have k0 : K2 P1 P2 H6 H6 := ⟨t1, t2, fun b o _ _ e => e⟩
    refine ⟨4, rfl, by decide, by decide, for_range (n := 4) (fun i σ H' => ∃ v8 v9 v10 : Option V, σ = [some (.ref a), some (.ref p), some (.int (L : Int)), some (.ref m), some (.int (e : Int)), some (.ref sm), some (.ref wp), some (.ref D), v8, v9, v10, none, none] ∧ K2 P1 P2 H6 H')
      ⟨_, _, _, rfl, k0⟩ ?_ ?_⟩
    · rintro i σ H8 hi ⟨v8, v9, v10, rfl, k8⟩
      have ei : (0 : Int) + (i : Int) = (i : Int) := by omega
      dsimp only [List.set]
      rw [ei]
      have hS8 := k8.ma h12 t1 t2 hS6
      have hp8 := k8.lst t1 t2 hp6
      have hml := hm.len
      refine ⟨_, rfl, _, rfl, _, rfl, _, _, rfl, rfl, .inl ⟨by decide, by decide⟩, _, _, rfl, rfl, _, rfl, ?_⟩
      refine ⟨_, rfl, _, _, rfl, rfl, .inl ⟨by decide, by decide⟩, _, _, rfl, rfl, _, rfl, ?_⟩
      refine ⟨p, _, rfl, SqL.of hp8, fun g1 h1 => ?_⟩
      have cut : cutV (ms.map V.int) (some (150 + 45 * (i : Int))) (some (195 + 45 * (i : Int))) = ((ms.drop (150 + 45 * (i : Int)).toNat).take ((195 + 45 * (i : Int)).toNat - (150 + 45 * (i : Int)).toNat)).map V.int := by
        rw [cut_mid (by omega) (by omega) (by rw [List.length_map]; omega), List.map_take, List.map_drop]
      rw [cut]
      have lcut : ((ms.drop (150 + 45 * (i : Int)).toNat).take ((195 + 45 * (i : Int)).toNat - (150 + 45 * (i : Int)).toNat)).length = 45 := by
        rw [List.length_take, List.length_drop]
        omega
      generalize (ms.drop (150 + 45 * (i : Int)).toNat).take ((195 + 45 * (i : Int)).toNat - (150 + 45 * (i : Int)).toNat) = cs at *
      have sA := same_upd (o := .lst (cs.map V.int)) (Same.refl H8) h1
      have eA : (upd H8 g1 (.lst (cs.map V.int))) g1 = some (.lst (cs.map V.int)) := upd_same
      generalize upd H8 g1 (.lst (cs.map V.int)) = HA at *
      refine ⟨_, rfl, sm, g1, L0, cs, e, rfl, hS8.same sA, gL, eA, by omega, lcut, fun HB o N sB hN gN nls nos nrl => ?_⟩
      have sAB := sA.trans sB
      refine ⟨_, rfl, rfl, _, rfl, ?_⟩
      refine ifAnd (fun σ H' => ∃ (o : Addr) (N : Mach), σ = [some (.ref a), some (.ref p), some (.int (L : Int)), some (.ref m), some (.int (e : Int)), some (.ref sm), some (.ref wp), some (.ref D), some (.int (i : Int)), some (.ref o), v10, none, none] ∧ Same H8 H' ∧ MA H' o N ∧ Good N ∧ N.ls = L0.ls ∧ N.os = L0.os ∧ N.rows.length = L0.rows.length + e) (fun c nx => ?_) (fun c => ⟨o, N, rfl, sAB, hN, gN, nls, nos, nrl⟩) ?_
      · refine ⟨_, rfl, rfl, _, rfl, ?_⟩
        refine ifJoin _ (fun c2 nx => ?_) (fun c2 => ⟨o, N, rfl, sAB, hN, gN, nls, nos, nrl⟩) nx
        have l1 : L = 1 := by have := of_decide_eq_true c2; injection this; omega
        have hS9 := hS8.same sAB
        obtain ⟨mv, ou, rs, hSt⟩ := id hS9
        refine ⟨_, rfl, _, rfl, .inr (.inl ⟨sm, _, 3, .ref ou, rfl, rfl, SqT.of hSt.top, rfl, ou, _, rfl, .inr (SqT.of hSt.ou), ?_⟩)⟩
        rw [List.length_map, gL.ol]
        refine ⟨_, rfl, _, _, rfl, rfl, ?_⟩
        refine ⟨sm, L0, L0.rows.length + e, congrArg (fun z => [V.ref sm, V.int z]) (by push_cast; rfl), hS9, gL, by omega, by omega, by omega, fun HC o2 N2 sC hN2 gN2 r1 r2 r3 => ?_⟩
        exact nx _ _ ⟨o2, N2, rfl, sAB.trans sC, hN2, gN2, by omega, r2, r3⟩
      clear hN gN nls nos nrl sAB sB sA eA h1
      rintro σ H9 ⟨o, N, rfl, s9, hN, gN, nls, nos, nrl⟩
      have k9 := k8.same s9
      have hS9 := hS8.same s9
      have ew9 := k9.lst t1 t2 ew6
      have e9 := k9.lst t1 t2 e6
      have ll9 := k9.ll t1 t2 ll6
      have l9 := k9.ll t1 t2 l6.1
      have hM9 := k9.ma h12 t1 t2 hM6
      refine ⟨_, rfl, wp, _, rfl, .inl (SqL.of ew9), ?_⟩
      rw [lts]
      refine ⟨ws.length, rfl, by omega, by omega, fun B hB => ?_⟩
      refine lc_it (walk_range (n := ws.length)) (fun k H' => Same H9 H' ∧ H' B = some (.lst (((ws.take k).map fun v => !decide (outsA N 0 v = outsA L0 0 v)).map V.bl))) ⟨same_upd (Same.refl _) hB, upd_same⟩ (fun _ _ _ _ => trivial) ?_ ?_
      · rintro k y HXx HX hk ⟨sX, eX⟩ ⟨rfl, rfl⟩
        have ek : (0 : Int) + (k : Int) = (k : Int) := by omega
        dsimp only
        rw [ek]
        have tk := List.getElem?_eq_getElem (l := ts) (i := k) (by rw [ll.1]; exact hk)
        have wk := List.getElem?_eq_getElem hk
        have uk := List.getElem?_eq_getElem (l := us) (i := k) (by have := l6.1.1; rw [List.length_map] at this; omega)
        have et := sX _ _ (ll9.2 k _ _ tk wk)
        have eo := sX _ _ (l9.2 k _ (outsA L0 0 ws[k]) uk (by rw [List.getElem?_map, wk]; rfl))
        obtain ⟨lv, len⟩ := lw _ (List.mem_of_getElem? wk)
        refine ⟨rfl, ?_⟩
        refine ⟨_, rfl, _, rfl, _, rfl, .inl ⟨wp, _, _, _, rfl, rfl, SqL.of (sX _ _ ew9), atI_get? (by omega) (by rw [Int.toNat_natCast]; exact tk), ?_⟩⟩
        refine ⟨o, _, N, 0, _, rfl, hN.same sX, gN, gN.st0, et, by rw [nls]; exact lv, by omega, fun HA q sA fo eoA => ?_⟩
        refine ⟨_, rfl, _, rfl, .inl ⟨D, _, _, _, rfl, rfl, SqL.of (sA _ _ (sX _ _ e9)), atI_get? (by omega) (by rw [Int.toNat_natCast]; exact uk), ?_⟩⟩
        refine ne_lsts eoA (sA _ _ eo) ?_
        refine ⟨_, sA _ _ eX, ?_, same_set (sX.trans sA) hB, ?_⟩
        · rw [List.length_map, List.length_map, List.length_take]
          exact Nat.lt_of_le_of_lt (by omega : min k ws.length ≤ 5000) (by decide)
        · rw [upd_same, take_more wk, List.map_append, List.map_append]
          rfl
      rintro HX ⟨sX, eX⟩
      rw [List.take_length] at eX
      refine ⟨B, _, rfl, SqL.of eX, ?_⟩
      refine ⟨_, rfl, _, rfl, _, rfl, sm, o, L0, N, rfl, hS9.same sX, hN.same sX, gL, gN, nls.symm, fun HA d sA iffd => ?_⟩
      refine ⟨rfl, _, rfl, ?_⟩
      have eq : ((ws.map fun v => !decide (outsA N 0 v = outsA L0 0 v)).any id) = d := by
        rw [Bool.eq_iff_iff, iffd, List.any_map, List.any_eq_true]
        constructor
        · rintro ⟨v, hv, q⟩ sim
          have := sim_outs sim (lw v hv).1
          simp [this] at q
        · intro ns
          refine Classical.byContradiction fun no => ns ?_
          refine suite_tells (e := e) F gN nls (by omega) tl.nil tl.tell fun v hv => ?_
          have hv := (iff v).mpr hv
          refine Classical.byContradiction fun ne => no ⟨v, hv, ?_⟩
          simpa using fun z => ne z.symm
      rw [eq]
      refine ifDF (by simp) ?_
      have sXA := sX.trans sA
      have kA := k9.same sXA
      have nb : ¬ BadW M N ws := fun z => z.elim (fun z => z ⟨ls.symm.trans nls.symm, os.symm.trans nos.symm⟩) fun ⟨v, hv, q⟩ => by
        obtain ⟨x1, x2⟩ := lw v hv
        rw [fit_of (by rw [← ls]; exact x1) (by omega)] at q
        cases q
      refine ⟨_, rfl, _, rfl, _, rfl, wp, m, o, M, N, ts, ws, rfl, hM9.same sXA, hN.same sXA, g, gN, sXA _ _ ew9, ll9.same sXA, by omega, fun v hv => by have := (lw v hv).2; omega, kA.t1, kA.t2, fun z => absurd z nb, fun _ HT kT b iffb => ?_⟩
      have ebd : b = d := by
        rw [← eq, Bool.eq_iff_iff, iffb, List.any_map, List.any_eq_true]
        constructor
        · rintro ⟨v, hv, q⟩
          refine ⟨v, hv, ?_⟩
          rw [sim_outs sim0 (by rw [← ls]; exact (lw v hv).1)] at q
          simpa using fun z => q z.symm
        · rintro ⟨v, hv, q⟩
          refine ⟨v, hv, fun z => ?_⟩
          rw [sim_outs sim0 (by rw [← ls]; exact (lw v hv).1)] at z
          simp [z] at q
      rw [ebd]
      refine ⟨_, rfl, rfl, _, rfl, ?_⟩
      refine ifDF (by simp) ?_
      exact ⟨_, _, _, rfl, kA.trans kT⟩
    · rintro σ H8 ⟨v8, v9, v10, rfl, k8⟩
      exact fin H8
end
end K25

set_option Elab.async false
set_option linter.all false
set_option maxRecDepth 100000
set_option maxHeartbeats 4000000
namespace K25
open PySem PySem.Spec PyProof.Rows L2 Mz
theorem all_mk {K : PySem.W.Frag} {h : Heap} {mg : Str → Option Value} {fa : Addr} (X : K.In h) (G : h.Ns mainGlobals mg) (hfa : mg "law" = some (.ref fa))
    {c_MaieuticError c_NotAllowed c_Alike f_parting_word f_check_kin f_first_parting f_classes f_first_places f_least f_met_states f_are_below f_is_word f_fits f_check_word f_outputs_from f_words_of f_word_order f_ways_to f_telling_words f_are_told f_suite_words f_most_words f_heads f_law_numbers f_law_machine f_law_kinds f_law_least f_law_along f_law_differ f_law_twin f_law_spoilt f_law_lock f_law_late f_law : Addr} {od0 an0 od1 an1 od2 an2 od3 an3 od4 an4 od5 an5 od6 an6 od7 an7 od8 an8 od9 an9 od10 an10 od11 an11 od12 an12 od13 an13 od14 an14 od15 an15 od16 an16 od17 an17 od18 an18 od19 an19 od20 an20 od21 an21 od22 an22 od23 an23 od24 an24 od25 an25 od26 an26 od27 an27 od28 an28 od29 an29 od30 an30 : Option Addr} {sl0 sl1 sl2 sl3 sl4 sl5 sl6 sl7 sl8 sl9 sl10 sl11 sl12 sl13 sl14 sl15 sl16 sl17 sl18 sl19 sl20 sl21 sl22 sl23 sl24 sl25 sl26 sl27 sl28 sl29 sl30 : Array (Option Value)}
    {oc0 kV0 dc0 pm0 cd0 ct0 oc1 kV1 dc1 pm1 cd1 ct1 oc2 kV2 dc2 pm2 cd2 ct2 oc3 kV3 dc3 pm3 cd3 ct3 oc4 kV4 dc4 pm4 cd4 ct4 oc5 kV5 dc5 pm5 cd5 ct5 oc6 kV6 dc6 pm6 cd6 ct6 oc7 kV7 dc7 pm7 ct7 oc8 kV8 dc8 pm8 cd8 ct8 oc9 kV9 dc9 pm9 cd9 ct9 oc10 kV10 dc10 pm10 cd10 ct10 oc11 kV11 dc11 pm11 cd11 ct11 oc12 kV12 dc12 pm12 cd12 ct12 oc13 kV13 dc13 pm13 cd13 ct13 oc14 kV14 dc14 pm14 cd14 ct14 oc15 kV15 dc15 pm15 cd15 ct15 oc16 kV16 dc16 pm16 ct16 oc17 kV17 dc17 pm17 cd17 ct17 oc18 kV18 dc18 pm18 cd18 ct18 oc19 kV19 dc19 pm19 cd19 ct19 oc20 kV20 dc20 pm20 cd20 ct20 oc21 kV21 dc21 pm21 cd21 ct21 oc22 kV22 dc22 pm22 cd22 ct22 oc23 kV23 dc23 pm23 cd23 ct23 oc24 kV24 dc24 pm24 cd24 ct24 oc25 kV25 dc25 pm25 cd25 ct25 oc26 kV26 dc26 pm26 cd26 ct26 oc27 kV27 dc27 pm27 cd27 ct27 oc28 kV28 dc28 pm28 cd28 ct28 oc29 kV29 dc29 pm29 cd29 ct29 oc30 kV30 dc30 pm30 cd30 ct30 vc0 vc1 vc2 : Value}
    {tc7 tp7 : Addr} {te7 : Value} {td7 : Option Addr} {tv7 : Array Value} {ts7 : Array (Option Value)}
    {tc16 tp16 : Addr} {te16 : Value} {td16 : Option Addr} {tv16 : Array Value} {ts16 : Array (Option Value)}
    (r_MaieuticError : PySem.W.nsIn K mainGlobals "MaieuticError" = some (some (.ref c_MaieuticError)))
    (rx_MaieuticError : PySem.W.excIn K c_MaieuticError [.type "ValueError", .type "Exception", .type "BaseException", .type "object"] "ValueError.__new__" = true)
    (rk_MaieuticError : PySem.W.keepIn K (.ref c_MaieuticError) = true)
    (rb_MaieuticError : PySem.W.subIn K (.ref c_MaieuticError) (.type "BaseException") = some true)
    (rt_MaieuticError : PySem.W.typeIn K (.ref c_MaieuticError) = some (.type "type"))
    (rga_MaieuticError : PySem.W.findIn K (.ref c_MaieuticError) "__getattribute__" = some (some (.builtin "BaseException.__getattribute__")))
    (rgg_MaieuticError : PySem.W.findIn K (.ref c_MaieuticError) "__getattr__" = some none)
    (rh_MaieuticError : PySem.W.hasDictIn K c_MaieuticError = true)
    (rc_MaieuticError : PySem.W.findIn K (.ref c_MaieuticError) "__class__" = some (some (.builtin "object.__class__")))
    (rm_MaieuticError : PySem.W.mroIn K c_MaieuticError (.type "object") = some true)
    (r_NotAllowed : PySem.W.nsIn K mainGlobals "NotAllowed" = some (some (.ref c_NotAllowed)))
    (rx_NotAllowed : PySem.W.excIn K c_NotAllowed [.type "ValueError", .type "Exception", .type "BaseException", .type "object"] "ValueError.__new__" = true)
    (rk_NotAllowed : PySem.W.keepIn K (.ref c_NotAllowed) = true)
    (rb_NotAllowed : PySem.W.subIn K (.ref c_NotAllowed) (.type "BaseException") = some true)
    (rt_NotAllowed : PySem.W.typeIn K (.ref c_NotAllowed) = some (.type "type"))
    (rga_NotAllowed : PySem.W.findIn K (.ref c_NotAllowed) "__getattribute__" = some (some (.builtin "BaseException.__getattribute__")))
    (rgg_NotAllowed : PySem.W.findIn K (.ref c_NotAllowed) "__getattr__" = some none)
    (rh_NotAllowed : PySem.W.hasDictIn K c_NotAllowed = true)
    (rc_NotAllowed : PySem.W.findIn K (.ref c_NotAllowed) "__class__" = some (some (.builtin "object.__class__")))
    (rm_NotAllowed : PySem.W.mroIn K c_NotAllowed (.type "object") = some true)
    (r_Alike : PySem.W.nsIn K mainGlobals "Alike" = some (some (.ref c_Alike)))
    (rx_Alike : PySem.W.excIn K c_Alike [.type "ValueError", .type "Exception", .type "BaseException", .type "object"] "ValueError.__new__" = true)
    (rk_Alike : PySem.W.keepIn K (.ref c_Alike) = true)
    (rb_Alike : PySem.W.subIn K (.ref c_Alike) (.type "BaseException") = some true)
    (rt_Alike : PySem.W.typeIn K (.ref c_Alike) = some (.type "type"))
    (rga_Alike : PySem.W.findIn K (.ref c_Alike) "__getattribute__" = some (some (.builtin "BaseException.__getattribute__")))
    (rgg_Alike : PySem.W.findIn K (.ref c_Alike) "__getattr__" = some none)
    (rh_Alike : PySem.W.hasDictIn K c_Alike = true)
    (rc_Alike : PySem.W.findIn K (.ref c_Alike) "__class__" = some (some (.builtin "object.__class__")))
    (rm_Alike : PySem.W.mroIn K c_Alike (.type "object") = some true)
    (ra1 : PySem.W.specialIn K (.builtin "object.__class__") "__get__" = some (some (.builtin "getset_descriptor.__get__")))
    (ra2 : PySem.W.takesIn K (.builtin "object.__class__") = some true)
    (rsu_MaieuticError_MaieuticError : PySem.W.subIn K (.ref c_MaieuticError) (.ref c_MaieuticError) = some true)
    (rsu_MaieuticError_NotAllowed : PySem.W.subIn K (.ref c_MaieuticError) (.ref c_NotAllowed) = some false)
    (rsu_MaieuticError_Alike : PySem.W.subIn K (.ref c_MaieuticError) (.ref c_Alike) = some false)
    (rsu_NotAllowed_MaieuticError : PySem.W.subIn K (.ref c_NotAllowed) (.ref c_MaieuticError) = some true)
    (rsu_NotAllowed_NotAllowed : PySem.W.subIn K (.ref c_NotAllowed) (.ref c_NotAllowed) = some true)
    (rsu_NotAllowed_Alike : PySem.W.subIn K (.ref c_NotAllowed) (.ref c_Alike) = some false)
    (rsu_Alike_MaieuticError : PySem.W.subIn K (.ref c_Alike) (.ref c_MaieuticError) = some true)
    (rsu_Alike_NotAllowed : PySem.W.subIn K (.ref c_Alike) (.ref c_NotAllowed) = some false)
    (rsu_Alike_Alike : PySem.W.subIn K (.ref c_Alike) (.ref c_Alike) = some true)
    (q_parting_word : PySem.W.nsIn K mainGlobals "parting_word" = some (some (.ref f_parting_word)))
    (l_parting_word : K.lookup f_parting_word = some ⟨oc0, od0, .func (PySem.W.fnOf "parting_word" "parting_word" (defArgs s_parting_word) (defBody s_parting_word) (defScope s_parting_word) .none kV0 dc0 pm0 an0 cd0 ct0), sl0⟩)
    (cc_parting_word : PySem.W.codeIn K cd0 "parting_word" = true)
    (kk_parting_word : PySem.W.keepIn K (.ref f_parting_word) = true)
    (q_check_kin : PySem.W.nsIn K mainGlobals "check_kin" = some (some (.ref f_check_kin)))
    (l_check_kin : K.lookup f_check_kin = some ⟨oc1, od1, .func (PySem.W.fnOf "check_kin" "check_kin" (defArgs s_check_kin) (defBody s_check_kin) (defScope s_check_kin) .none kV1 dc1 pm1 an1 cd1 ct1), sl1⟩)
    (cc_check_kin : PySem.W.codeIn K cd1 "check_kin" = true)
    (kk_check_kin : PySem.W.keepIn K (.ref f_check_kin) = true)
    (q_first_parting : PySem.W.nsIn K mainGlobals "_first_parting" = some (some (.ref f_first_parting)))
    (l_first_parting : K.lookup f_first_parting = some ⟨oc2, od2, .func (PySem.W.fnOf "_first_parting" "_first_parting" (defArgs s_first_parting) (defBody s_first_parting) (defScope s_first_parting) .none kV2 dc2 pm2 an2 cd2 ct2), sl2⟩)
    (cc_first_parting : PySem.W.codeIn K cd2 "_first_parting" = true)
    (kk_first_parting : PySem.W.keepIn K (.ref f_first_parting) = true)
    (q_classes : PySem.W.nsIn K mainGlobals "classes" = some (some (.ref f_classes)))
    (l_classes : K.lookup f_classes = some ⟨oc3, od3, .func (PySem.W.fnOf "classes" "classes" (defArgs s_classes) (defBody s_classes) (defScope s_classes) .none kV3 dc3 pm3 an3 cd3 ct3), sl3⟩)
    (cc_classes : PySem.W.codeIn K cd3 "classes" = true)
    (kk_classes : PySem.W.keepIn K (.ref f_classes) = true)
    (q_first_places : PySem.W.nsIn K mainGlobals "first_places" = some (some (.ref f_first_places)))
    (l_first_places : K.lookup f_first_places = some ⟨oc4, od4, .func (PySem.W.fnOf "first_places" "first_places" (defArgs s_first_places) (defBody s_first_places) (defScope s_first_places) .none kV4 dc4 pm4 an4 cd4 ct4), sl4⟩)
    (cc_first_places : PySem.W.codeIn K cd4 "first_places" = true)
    (kk_first_places : PySem.W.keepIn K (.ref f_first_places) = true)
    (q_least : PySem.W.nsIn K mainGlobals "least" = some (some (.ref f_least)))
    (l_least : K.lookup f_least = some ⟨oc5, od5, .func (PySem.W.fnOf "least" "least" (defArgs s_least) (defBody s_least) (defScope s_least) .none kV5 dc5 pm5 an5 cd5 ct5), sl5⟩)
    (cc_least : PySem.W.codeIn K cd5 "least" = true)
    (kk_least : PySem.W.keepIn K (.ref f_least) = true)
    (q_met_states : PySem.W.nsIn K mainGlobals "_met_states" = some (some (.ref f_met_states)))
    (l_met_states : K.lookup f_met_states = some ⟨oc6, od6, .func (PySem.W.fnOf "_met_states" "_met_states" (defArgs s_met_states) (defBody s_met_states) (defScope s_met_states) .none kV6 dc6 pm6 an6 cd6 ct6), sl6⟩)
    (cc_met_states : PySem.W.codeIn K cd6 "_met_states" = true)
    (kk_met_states : PySem.W.keepIn K (.ref f_met_states) = true)
    (q_are_below : PySem.W.nsIn K mainGlobals "are_below" = some (some (.ref f_are_below)))
    (l_are_below : K.lookup f_are_below = some ⟨oc7, od7, .func (PySem.W.fnOf "are_below" "are_below" (defArgs s_are_below) (defBody s_are_below) (defScope s_are_below) .none kV7 dc7 pm7 an7 (.ref tc7) ct7), sl7⟩)
    (cc_are_below : PySem.W.codeIn K (.ref tc7) "are_below" = true)
    (tk_are_below : K.lookup tc7 = some ⟨te7, td7, .fields tv7, ts7⟩)
    (tv_are_below : (tv7[11]? : Option Value) = some (.ref tp7))
    (tn_are_below : K.lookup tp7 = none)
    (kk_are_below : PySem.W.keepIn K (.ref f_are_below) = true)
    (q_is_word : PySem.W.nsIn K mainGlobals "is_word" = some (some (.ref f_is_word)))
    (l_is_word : K.lookup f_is_word = some ⟨oc8, od8, .func (PySem.W.fnOf "is_word" "is_word" (defArgs s_is_word) (defBody s_is_word) (defScope s_is_word) .none kV8 dc8 pm8 an8 cd8 ct8), sl8⟩)
    (cc_is_word : PySem.W.codeIn K cd8 "is_word" = true)
    (kk_is_word : PySem.W.keepIn K (.ref f_is_word) = true)
    (q_fits : PySem.W.nsIn K mainGlobals "fits" = some (some (.ref f_fits)))
    (l_fits : K.lookup f_fits = some ⟨oc9, od9, .func (PySem.W.fnOf "fits" "fits" (defArgs s_fits) (defBody s_fits) (defScope s_fits) .none kV9 dc9 pm9 an9 cd9 ct9), sl9⟩)
    (cc_fits : PySem.W.codeIn K cd9 "fits" = true)
    (kk_fits : PySem.W.keepIn K (.ref f_fits) = true)
    (q_check_word : PySem.W.nsIn K mainGlobals "check_word" = some (some (.ref f_check_word)))
    (l_check_word : K.lookup f_check_word = some ⟨oc10, od10, .func (PySem.W.fnOf "check_word" "check_word" (defArgs s_check_word) (defBody s_check_word) (defScope s_check_word) .none kV10 dc10 pm10 an10 cd10 ct10), sl10⟩)
    (cc_check_word : PySem.W.codeIn K cd10 "check_word" = true)
    (kk_check_word : PySem.W.keepIn K (.ref f_check_word) = true)
    (q_outputs_from : PySem.W.nsIn K mainGlobals "outputs_from" = some (some (.ref f_outputs_from)))
    (l_outputs_from : K.lookup f_outputs_from = some ⟨oc11, od11, .func (PySem.W.fnOf "outputs_from" "outputs_from" (defArgs s_outputs_from) (defBody s_outputs_from) (defScope s_outputs_from) .none kV11 dc11 pm11 an11 cd11 ct11), sl11⟩)
    (cc_outputs_from : PySem.W.codeIn K cd11 "outputs_from" = true)
    (kk_outputs_from : PySem.W.keepIn K (.ref f_outputs_from) = true)
    (q_words_of : PySem.W.nsIn K mainGlobals "words_of" = some (some (.ref f_words_of)))
    (l_words_of : K.lookup f_words_of = some ⟨oc12, od12, .func (PySem.W.fnOf "words_of" "words_of" (defArgs s_words_of) (defBody s_words_of) (defScope s_words_of) .none kV12 dc12 pm12 an12 cd12 ct12), sl12⟩)
    (cc_words_of : PySem.W.codeIn K cd12 "words_of" = true)
    (kk_words_of : PySem.W.keepIn K (.ref f_words_of) = true)
    (q_word_order : PySem.W.nsIn K mainGlobals "word_order" = some (some (.ref f_word_order)))
    (l_word_order : K.lookup f_word_order = some ⟨oc13, od13, .func (PySem.W.fnOf "word_order" "word_order" (defArgs s_word_order) (defBody s_word_order) (defScope s_word_order) .none kV13 dc13 pm13 an13 cd13 ct13), sl13⟩)
    (cc_word_order : PySem.W.codeIn K cd13 "word_order" = true)
    (kk_word_order : PySem.W.keepIn K (.ref f_word_order) = true)
    (q_ways_to : PySem.W.nsIn K mainGlobals "ways_to" = some (some (.ref f_ways_to)))
    (l_ways_to : K.lookup f_ways_to = some ⟨oc14, od14, .func (PySem.W.fnOf "ways_to" "ways_to" (defArgs s_ways_to) (defBody s_ways_to) (defScope s_ways_to) .none kV14 dc14 pm14 an14 cd14 ct14), sl14⟩)
    (cc_ways_to : PySem.W.codeIn K cd14 "ways_to" = true)
    (kk_ways_to : PySem.W.keepIn K (.ref f_ways_to) = true)
    (q_telling_words : PySem.W.nsIn K mainGlobals "telling_words" = some (some (.ref f_telling_words)))
    (l_telling_words : K.lookup f_telling_words = some ⟨oc15, od15, .func (PySem.W.fnOf "telling_words" "telling_words" (defArgs s_telling_words) (defBody s_telling_words) (defScope s_telling_words) .none kV15 dc15 pm15 an15 cd15 ct15), sl15⟩)
    (cc_telling_words : PySem.W.codeIn K cd15 "telling_words" = true)
    (kk_telling_words : PySem.W.keepIn K (.ref f_telling_words) = true)
    (q_are_told : PySem.W.nsIn K mainGlobals "are_told" = some (some (.ref f_are_told)))
    (l_are_told : K.lookup f_are_told = some ⟨oc16, od16, .func (PySem.W.fnOf "are_told" "are_told" (defArgs s_are_told) (defBody s_are_told) (defScope s_are_told) .none kV16 dc16 pm16 an16 (.ref tc16) ct16), sl16⟩)
    (cc_are_told : PySem.W.codeIn K (.ref tc16) "are_told" = true)
    (tk_are_told : K.lookup tc16 = some ⟨te16, td16, .fields tv16, ts16⟩)
    (tv_are_told : (tv16[11]? : Option Value) = some (.ref tp16))
    (tn_are_told : K.lookup tp16 = none)
    (kk_are_told : PySem.W.keepIn K (.ref f_are_told) = true)
    (q_suite_words : PySem.W.nsIn K mainGlobals "suite_words" = some (some (.ref f_suite_words)))
    (l_suite_words : K.lookup f_suite_words = some ⟨oc17, od17, .func (PySem.W.fnOf "suite_words" "suite_words" (defArgs s_suite_words) (defBody s_suite_words) (defScope s_suite_words) .none kV17 dc17 pm17 an17 cd17 ct17), sl17⟩)
    (cc_suite_words : PySem.W.codeIn K cd17 "suite_words" = true)
    (kk_suite_words : PySem.W.keepIn K (.ref f_suite_words) = true)
    (q_most_words : PySem.W.nsIn K mainGlobals "most_words" = some (some (.ref f_most_words)))
    (l_most_words : K.lookup f_most_words = some ⟨oc18, od18, .func (PySem.W.fnOf "most_words" "most_words" (defArgs s_most_words) (defBody s_most_words) (defScope s_most_words) .none kV18 dc18 pm18 an18 cd18 ct18), sl18⟩)
    (cc_most_words : PySem.W.codeIn K cd18 "most_words" = true)
    (kk_most_words : PySem.W.keepIn K (.ref f_most_words) = true)
    (q_heads : PySem.W.nsIn K mainGlobals "_heads" = some (some (.ref f_heads)))
    (l_heads : K.lookup f_heads = some ⟨oc19, od19, .func (PySem.W.fnOf "_heads" "_heads" (defArgs s_heads) (defBody s_heads) (defScope s_heads) .none kV19 dc19 pm19 an19 cd19 ct19), sl19⟩)
    (cc_heads : PySem.W.codeIn K cd19 "_heads" = true)
    (kk_heads : PySem.W.keepIn K (.ref f_heads) = true)
    (q_law_numbers : PySem.W.nsIn K mainGlobals "_law_numbers" = some (some (.ref f_law_numbers)))
    (l_law_numbers : K.lookup f_law_numbers = some ⟨oc20, od20, .func (PySem.W.fnOf "_law_numbers" "_law_numbers" (defArgs s_law_numbers) (defBody s_law_numbers) (defScope s_law_numbers) .none kV20 dc20 pm20 an20 cd20 ct20), sl20⟩)
    (cc_law_numbers : PySem.W.codeIn K cd20 "_law_numbers" = true)
    (kk_law_numbers : PySem.W.keepIn K (.ref f_law_numbers) = true)
    (q_law_machine : PySem.W.nsIn K mainGlobals "_law_machine" = some (some (.ref f_law_machine)))
    (l_law_machine : K.lookup f_law_machine = some ⟨oc21, od21, .func (PySem.W.fnOf "_law_machine" "_law_machine" (defArgs s_law_machine) (defBody s_law_machine) (defScope s_law_machine) .none kV21 dc21 pm21 an21 cd21 ct21), sl21⟩)
    (cc_law_machine : PySem.W.codeIn K cd21 "_law_machine" = true)
    (kk_law_machine : PySem.W.keepIn K (.ref f_law_machine) = true)
    (q_law_kinds : PySem.W.nsIn K mainGlobals "_law_kinds" = some (some (.ref f_law_kinds)))
    (l_law_kinds : K.lookup f_law_kinds = some ⟨oc22, od22, .func (PySem.W.fnOf "_law_kinds" "_law_kinds" (defArgs s_law_kinds) (defBody s_law_kinds) (defScope s_law_kinds) .none kV22 dc22 pm22 an22 cd22 ct22), sl22⟩)
    (cc_law_kinds : PySem.W.codeIn K cd22 "_law_kinds" = true)
    (kk_law_kinds : PySem.W.keepIn K (.ref f_law_kinds) = true)
    (q_law_least : PySem.W.nsIn K mainGlobals "_law_least" = some (some (.ref f_law_least)))
    (l_law_least : K.lookup f_law_least = some ⟨oc23, od23, .func (PySem.W.fnOf "_law_least" "_law_least" (defArgs s_law_least) (defBody s_law_least) (defScope s_law_least) .none kV23 dc23 pm23 an23 cd23 ct23), sl23⟩)
    (cc_law_least : PySem.W.codeIn K cd23 "_law_least" = true)
    (kk_law_least : PySem.W.keepIn K (.ref f_law_least) = true)
    (q_law_along : PySem.W.nsIn K mainGlobals "_law_along" = some (some (.ref f_law_along)))
    (l_law_along : K.lookup f_law_along = some ⟨oc24, od24, .func (PySem.W.fnOf "_law_along" "_law_along" (defArgs s_law_along) (defBody s_law_along) (defScope s_law_along) .none kV24 dc24 pm24 an24 cd24 ct24), sl24⟩)
    (cc_law_along : PySem.W.codeIn K cd24 "_law_along" = true)
    (kk_law_along : PySem.W.keepIn K (.ref f_law_along) = true)
    (q_law_differ : PySem.W.nsIn K mainGlobals "_law_differ" = some (some (.ref f_law_differ)))
    (l_law_differ : K.lookup f_law_differ = some ⟨oc25, od25, .func (PySem.W.fnOf "_law_differ" "_law_differ" (defArgs s_law_differ) (defBody s_law_differ) (defScope s_law_differ) .none kV25 dc25 pm25 an25 cd25 ct25), sl25⟩)
    (cc_law_differ : PySem.W.codeIn K cd25 "_law_differ" = true)
    (kk_law_differ : PySem.W.keepIn K (.ref f_law_differ) = true)
    (q_law_twin : PySem.W.nsIn K mainGlobals "_law_twin" = some (some (.ref f_law_twin)))
    (l_law_twin : K.lookup f_law_twin = some ⟨oc26, od26, .func (PySem.W.fnOf "_law_twin" "_law_twin" (defArgs s_law_twin) (defBody s_law_twin) (defScope s_law_twin) .none kV26 dc26 pm26 an26 cd26 ct26), sl26⟩)
    (cc_law_twin : PySem.W.codeIn K cd26 "_law_twin" = true)
    (kk_law_twin : PySem.W.keepIn K (.ref f_law_twin) = true)
    (q_law_spoilt : PySem.W.nsIn K mainGlobals "_law_spoilt" = some (some (.ref f_law_spoilt)))
    (l_law_spoilt : K.lookup f_law_spoilt = some ⟨oc27, od27, .func (PySem.W.fnOf "_law_spoilt" "_law_spoilt" (defArgs s_law_spoilt) (defBody s_law_spoilt) (defScope s_law_spoilt) .none kV27 dc27 pm27 an27 cd27 ct27), sl27⟩)
    (cc_law_spoilt : PySem.W.codeIn K cd27 "_law_spoilt" = true)
    (kk_law_spoilt : PySem.W.keepIn K (.ref f_law_spoilt) = true)
    (q_law_lock : PySem.W.nsIn K mainGlobals "_law_lock" = some (some (.ref f_law_lock)))
    (l_law_lock : K.lookup f_law_lock = some ⟨oc28, od28, .func (PySem.W.fnOf "_law_lock" "_law_lock" (defArgs s_law_lock) (defBody s_law_lock) (defScope s_law_lock) .none kV28 dc28 pm28 an28 cd28 ct28), sl28⟩)
    (cc_law_lock : PySem.W.codeIn K cd28 "_law_lock" = true)
    (kk_law_lock : PySem.W.keepIn K (.ref f_law_lock) = true)
    (q_law_late : PySem.W.nsIn K mainGlobals "_law_late" = some (some (.ref f_law_late)))
    (l_law_late : K.lookup f_law_late = some ⟨oc29, od29, .func (PySem.W.fnOf "_law_late" "_law_late" (defArgs s_law_late) (defBody s_law_late) (defScope s_law_late) .none kV29 dc29 pm29 an29 cd29 ct29), sl29⟩)
    (cc_law_late : PySem.W.codeIn K cd29 "_law_late" = true)
    (kk_law_late : PySem.W.keepIn K (.ref f_law_late) = true)
    (q_law : PySem.W.nsIn K mainGlobals "law" = some (some (.ref f_law)))
    (l_law : K.lookup f_law = some ⟨oc30, od30, .func (PySem.W.fnOf "law" "law" (defArgs s_law) (defBody s_law) (defScope s_law) .none kV30 dc30 pm30 an30 cd30 ct30), sl30⟩)
    (cc_law : PySem.W.codeIn K cd30 "law" = true)
    (kk_law : PySem.W.keepIn K (.ref f_law) = true)
    (vv_MAX_WORD : PySem.W.nsIn K mainGlobals "MAX_WORD" = some (some vc0))
    (vr_MAX_WORD : RelV (.int 400) vc0)
    (vv_MAX_EXTRA : PySem.W.nsIn K mainGlobals "MAX_EXTRA" = some (some vc1))
    (vr_MAX_EXTRA : RelV (.int 29) vc1)
    (vv_MAX_LIST : PySem.W.nsIn K mainGlobals "MAX_LIST" = some (some vc2))
    (vr_MAX_LIST : RelV (.int 4000) vc2)
    (z_len : PySem.W.nsIn K mainGlobals "len" = some none)
    (z_range : PySem.W.nsIn K mainGlobals "range" = some none)
    (z_enumerate : PySem.W.nsIn K mainGlobals "enumerate" = some none)
    (z_tuple : PySem.W.nsIn K mainGlobals "tuple" = some none)
    (z_all : PySem.W.nsIn K mainGlobals "all" = some none)
    (z_sorted : PySem.W.nsIn K mainGlobals "sorted" = some none)
    (z_any : PySem.W.nsIn K mainGlobals "any" = some none)
    (z_max : PySem.W.nsIn K mainGlobals "max" = some none)
    (z_abs : PySem.W.nsIn K mainGlobals "abs" = some none)
    (z_int : PySem.W.nsIn K mainGlobals "int" = some none)
    (z_list : PySem.W.nsIn K mainGlobals "list" = some none)
    (z_min : PySem.W.nsIn K mainGlobals "min" = some none)
    (nt_are_below_are_told : tp7 ≠ tp16) :
    ∃ (A : Ads) (c_are_below t_are_below : Addr) (c_are_told t_are_told : Addr), A.a_law = fa ∧ Txt K mg A ∧ (∀ (s : Shared) (v : Value), BindsTo s A.d_law ⟨[v], []⟩ [("script", v)]) ∧ A.d_are_below.code = .ref c_are_below ∧ PySem.W.tabIn K "are_below" = some (c_are_below, t_are_below) ∧ K.lookup t_are_below = none ∧ A.d_are_told.code = .ref c_are_told ∧ PySem.W.tabIn K "are_told" = some (c_are_told, t_are_told) ∧ K.lookup t_are_told = none ∧ t_are_below ≠ t_are_told := by
  have e := hfa.symm.trans (PySem.W.mg_of X G q_law)
  cases e
  have tab_are_below : PySem.W.tabIn K "are_below" = some (tc7, tp7) := by
    unfold PySem.W.tabIn
    rw [q_are_below]
    dsimp only
    rw [l_are_below]
    dsimp only [PySem.W.fnOf]
    rw [tk_are_below]
    dsimp only
    rw [tv_are_below]
  have tab_are_told : PySem.W.tabIn K "are_told" = some (tc16, tp16) := by
    unfold PySem.W.tabIn
    rw [q_are_told]
    dsimp only
    rw [l_are_told]
    dsimp only [PySem.W.fnOf]
    rw [tk_are_told]
    dsimp only
    rw [tv_are_told]
  refine ⟨{ a_MaieuticError := c_MaieuticError, a_NotAllowed := c_NotAllowed, a_Alike := c_Alike, a_parting_word := f_parting_word, d_parting_word := PySem.W.fnOf "parting_word" "parting_word" (defArgs s_parting_word) (defBody s_parting_word) (defScope s_parting_word) .none kV0 dc0 pm0 an0 cd0 ct0, a_check_kin := f_check_kin, d_check_kin := PySem.W.fnOf "check_kin" "check_kin" (defArgs s_check_kin) (defBody s_check_kin) (defScope s_check_kin) .none kV1 dc1 pm1 an1 cd1 ct1, a_first_parting := f_first_parting, d_first_parting := PySem.W.fnOf "_first_parting" "_first_parting" (defArgs s_first_parting) (defBody s_first_parting) (defScope s_first_parting) .none kV2 dc2 pm2 an2 cd2 ct2, a_classes := f_classes, d_classes := PySem.W.fnOf "classes" "classes" (defArgs s_classes) (defBody s_classes) (defScope s_classes) .none kV3 dc3 pm3 an3 cd3 ct3, a_first_places := f_first_places, d_first_places := PySem.W.fnOf "first_places" "first_places" (defArgs s_first_places) (defBody s_first_places) (defScope s_first_places) .none kV4 dc4 pm4 an4 cd4 ct4, a_least := f_least, d_least := PySem.W.fnOf "least" "least" (defArgs s_least) (defBody s_least) (defScope s_least) .none kV5 dc5 pm5 an5 cd5 ct5, a_met_states := f_met_states, d_met_states := PySem.W.fnOf "_met_states" "_met_states" (defArgs s_met_states) (defBody s_met_states) (defScope s_met_states) .none kV6 dc6 pm6 an6 cd6 ct6, a_are_below := f_are_below, d_are_below := PySem.W.fnOf "are_below" "are_below" (defArgs s_are_below) (defBody s_are_below) (defScope s_are_below) .none kV7 dc7 pm7 an7 (.ref tc7) ct7, a_is_word := f_is_word, d_is_word := PySem.W.fnOf "is_word" "is_word" (defArgs s_is_word) (defBody s_is_word) (defScope s_is_word) .none kV8 dc8 pm8 an8 cd8 ct8, a_fits := f_fits, d_fits := PySem.W.fnOf "fits" "fits" (defArgs s_fits) (defBody s_fits) (defScope s_fits) .none kV9 dc9 pm9 an9 cd9 ct9, a_check_word := f_check_word, d_check_word := PySem.W.fnOf "check_word" "check_word" (defArgs s_check_word) (defBody s_check_word) (defScope s_check_word) .none kV10 dc10 pm10 an10 cd10 ct10, a_outputs_from := f_outputs_from, d_outputs_from := PySem.W.fnOf "outputs_from" "outputs_from" (defArgs s_outputs_from) (defBody s_outputs_from) (defScope s_outputs_from) .none kV11 dc11 pm11 an11 cd11 ct11, a_words_of := f_words_of, d_words_of := PySem.W.fnOf "words_of" "words_of" (defArgs s_words_of) (defBody s_words_of) (defScope s_words_of) .none kV12 dc12 pm12 an12 cd12 ct12, a_word_order := f_word_order, d_word_order := PySem.W.fnOf "word_order" "word_order" (defArgs s_word_order) (defBody s_word_order) (defScope s_word_order) .none kV13 dc13 pm13 an13 cd13 ct13, a_ways_to := f_ways_to, d_ways_to := PySem.W.fnOf "ways_to" "ways_to" (defArgs s_ways_to) (defBody s_ways_to) (defScope s_ways_to) .none kV14 dc14 pm14 an14 cd14 ct14, a_telling_words := f_telling_words, d_telling_words := PySem.W.fnOf "telling_words" "telling_words" (defArgs s_telling_words) (defBody s_telling_words) (defScope s_telling_words) .none kV15 dc15 pm15 an15 cd15 ct15, a_are_told := f_are_told, d_are_told := PySem.W.fnOf "are_told" "are_told" (defArgs s_are_told) (defBody s_are_told) (defScope s_are_told) .none kV16 dc16 pm16 an16 (.ref tc16) ct16, a_suite_words := f_suite_words, d_suite_words := PySem.W.fnOf "suite_words" "suite_words" (defArgs s_suite_words) (defBody s_suite_words) (defScope s_suite_words) .none kV17 dc17 pm17 an17 cd17 ct17, a_most_words := f_most_words, d_most_words := PySem.W.fnOf "most_words" "most_words" (defArgs s_most_words) (defBody s_most_words) (defScope s_most_words) .none kV18 dc18 pm18 an18 cd18 ct18, a_heads := f_heads, d_heads := PySem.W.fnOf "_heads" "_heads" (defArgs s_heads) (defBody s_heads) (defScope s_heads) .none kV19 dc19 pm19 an19 cd19 ct19, a_law_numbers := f_law_numbers, d_law_numbers := PySem.W.fnOf "_law_numbers" "_law_numbers" (defArgs s_law_numbers) (defBody s_law_numbers) (defScope s_law_numbers) .none kV20 dc20 pm20 an20 cd20 ct20, a_law_machine := f_law_machine, d_law_machine := PySem.W.fnOf "_law_machine" "_law_machine" (defArgs s_law_machine) (defBody s_law_machine) (defScope s_law_machine) .none kV21 dc21 pm21 an21 cd21 ct21, a_law_kinds := f_law_kinds, d_law_kinds := PySem.W.fnOf "_law_kinds" "_law_kinds" (defArgs s_law_kinds) (defBody s_law_kinds) (defScope s_law_kinds) .none kV22 dc22 pm22 an22 cd22 ct22, a_law_least := f_law_least, d_law_least := PySem.W.fnOf "_law_least" "_law_least" (defArgs s_law_least) (defBody s_law_least) (defScope s_law_least) .none kV23 dc23 pm23 an23 cd23 ct23, a_law_along := f_law_along, d_law_along := PySem.W.fnOf "_law_along" "_law_along" (defArgs s_law_along) (defBody s_law_along) (defScope s_law_along) .none kV24 dc24 pm24 an24 cd24 ct24, a_law_differ := f_law_differ, d_law_differ := PySem.W.fnOf "_law_differ" "_law_differ" (defArgs s_law_differ) (defBody s_law_differ) (defScope s_law_differ) .none kV25 dc25 pm25 an25 cd25 ct25, a_law_twin := f_law_twin, d_law_twin := PySem.W.fnOf "_law_twin" "_law_twin" (defArgs s_law_twin) (defBody s_law_twin) (defScope s_law_twin) .none kV26 dc26 pm26 an26 cd26 ct26, a_law_spoilt := f_law_spoilt, d_law_spoilt := PySem.W.fnOf "_law_spoilt" "_law_spoilt" (defArgs s_law_spoilt) (defBody s_law_spoilt) (defScope s_law_spoilt) .none kV27 dc27 pm27 an27 cd27 ct27, a_law_lock := f_law_lock, d_law_lock := PySem.W.fnOf "_law_lock" "_law_lock" (defArgs s_law_lock) (defBody s_law_lock) (defScope s_law_lock) .none kV28 dc28 pm28 an28 cd28 ct28, a_law_late := f_law_late, d_law_late := PySem.W.fnOf "_law_late" "_law_late" (defArgs s_law_late) (defBody s_law_late) (defScope s_law_late) .none kV29 dc29 pm29 an29 cd29 ct29, a_law := fa, d_law := PySem.W.fnOf "law" "law" (defArgs s_law) (defBody s_law) (defScope s_law) .none kV30 dc30 pm30 an30 cd30 ct30 }, tc7, tp7, tc16, tp16, rfl, ?_, fun s v => .of_eq rfl, rfl, tab_are_below, tn_are_below, rfl, tab_are_told, tn_are_told, nt_are_below_are_told⟩
  exact {
    g_MaieuticError := PySem.W.mg_of X G r_MaieuticError,
    x_MaieuticError := rx_MaieuticError,
    k_MaieuticError := rk_MaieuticError,
    sb_MaieuticError := rb_MaieuticError,
    ty_MaieuticError := rt_MaieuticError,
    E_MaieuticError := ⟨rga_MaieuticError, rgg_MaieuticError, rb_MaieuticError, rh_MaieuticError, rc_MaieuticError, ra1, ra2, rm_MaieuticError⟩,
    g_NotAllowed := PySem.W.mg_of X G r_NotAllowed,
    x_NotAllowed := rx_NotAllowed,
    k_NotAllowed := rk_NotAllowed,
    sb_NotAllowed := rb_NotAllowed,
    ty_NotAllowed := rt_NotAllowed,
    E_NotAllowed := ⟨rga_NotAllowed, rgg_NotAllowed, rb_NotAllowed, rh_NotAllowed, rc_NotAllowed, ra1, ra2, rm_NotAllowed⟩,
    g_Alike := PySem.W.mg_of X G r_Alike,
    x_Alike := rx_Alike,
    k_Alike := rk_Alike,
    sb_Alike := rb_Alike,
    ty_Alike := rt_Alike,
    E_Alike := ⟨rga_Alike, rgg_Alike, rb_Alike, rh_Alike, rc_Alike, ra1, ra2, rm_Alike⟩,
    su_MaieuticError_MaieuticError := rsu_MaieuticError_MaieuticError,
    su_MaieuticError_NotAllowed := rsu_MaieuticError_NotAllowed,
    su_MaieuticError_Alike := rsu_MaieuticError_Alike,
    su_NotAllowed_MaieuticError := rsu_NotAllowed_MaieuticError,
    su_NotAllowed_NotAllowed := rsu_NotAllowed_NotAllowed,
    su_NotAllowed_Alike := rsu_NotAllowed_Alike,
    su_Alike_MaieuticError := rsu_Alike_MaieuticError,
    su_Alike_NotAllowed := rsu_Alike_NotAllowed,
    su_Alike_Alike := rsu_Alike_Alike,
    F_parting_word := fun_mk (st := s_parting_word) l_parting_word cc_parting_word kk_parting_word,
    b_parting_word := (fun_mk (st := s_parting_word) l_parting_word cc_parting_word kk_parting_word).binds (ps := ["machine", "state", "other"]) fun _ _ _ _ _ _ us hl => match us, hl with | [_, _, _], _ => rfl,
    g_parting_word := PySem.W.mg_of X G q_parting_word,
    F_check_kin := fun_mk (st := s_check_kin) l_check_kin cc_check_kin kk_check_kin,
    b_check_kin := (fun_mk (st := s_check_kin) l_check_kin cc_check_kin kk_check_kin).binds (ps := ["first", "second"]) fun _ _ _ _ _ _ us hl => match us, hl with | [_, _], _ => rfl,
    g_check_kin := PySem.W.mg_of X G q_check_kin,
    F_first_parting := fun_mk (st := s_first_parting) l_first_parting cc_first_parting kk_first_parting,
    b_first_parting := (fun_mk (st := s_first_parting) l_first_parting cc_first_parting kk_first_parting).binds (ps := ["first", "second", "start"]) fun _ _ _ _ _ _ us hl => match us, hl with | [_, _, _], _ => rfl,
    g_first_parting := PySem.W.mg_of X G q_first_parting,
    F_classes := fun_mk (st := s_classes) l_classes cc_classes kk_classes,
    b_classes := (fun_mk (st := s_classes) l_classes cc_classes kk_classes).binds (ps := ["machine"]) fun _ _ _ _ _ _ us hl => match us, hl with | [_], _ => rfl,
    g_classes := PySem.W.mg_of X G q_classes,
    F_first_places := fun_mk (st := s_first_places) l_first_places cc_first_places kk_first_places,
    b_first_places := (fun_mk (st := s_first_places) l_first_places cc_first_places kk_first_places).binds (ps := ["marks"]) fun _ _ _ _ _ _ us hl => match us, hl with | [_], _ => rfl,
    g_first_places := PySem.W.mg_of X G q_first_places,
    F_least := fun_mk (st := s_least) l_least cc_least kk_least,
    b_least := (fun_mk (st := s_least) l_least cc_least kk_least).binds (ps := ["machine"]) fun _ _ _ _ _ _ us hl => match us, hl with | [_], _ => rfl,
    g_least := PySem.W.mg_of X G q_least,
    F_met_states := fun_mk (st := s_met_states) l_met_states cc_met_states kk_met_states,
    b_met_states := (fun_mk (st := s_met_states) l_met_states cc_met_states kk_met_states).binds (ps := ["moves", "same"]) fun _ _ _ _ _ _ us hl => match us, hl with | [_, _], _ => rfl,
    g_met_states := PySem.W.mg_of X G q_met_states,
    F_are_below := fun_mk (st := s_are_below) l_are_below cc_are_below kk_are_below,
    b_are_below := (fun_mk (st := s_are_below) l_are_below cc_are_below kk_are_below).binds (ps := ["numbers", "limit"]) fun _ _ _ _ _ _ us hl => match us, hl with | [_, _], _ => rfl,
    g_are_below := PySem.W.mg_of X G q_are_below,
    F_is_word := fun_mk (st := s_is_word) l_is_word cc_is_word kk_is_word,
    b_is_word := (fun_mk (st := s_is_word) l_is_word cc_is_word kk_is_word).binds (ps := ["word", "letters", "longest"]) fun _ _ _ _ _ _ us hl => match us, hl with | [_, _, _], _ => rfl,
    g_is_word := PySem.W.mg_of X G q_is_word,
    F_fits := fun_mk (st := s_fits) l_fits cc_fits kk_fits,
    b_fits := (fun_mk (st := s_fits) l_fits cc_fits kk_fits).binds (ps := ["machine", "word"]) fun _ _ _ _ _ _ us hl => match us, hl with | [_, _], _ => rfl,
    g_fits := PySem.W.mg_of X G q_fits,
    F_check_word := fun_mk (st := s_check_word) l_check_word cc_check_word kk_check_word,
    b_check_word := (fun_mk (st := s_check_word) l_check_word cc_check_word kk_check_word).binds (ps := ["machine", "word"]) fun _ _ _ _ _ _ us hl => match us, hl with | [_, _], _ => rfl,
    g_check_word := PySem.W.mg_of X G q_check_word,
    F_outputs_from := fun_mk (st := s_outputs_from) l_outputs_from cc_outputs_from kk_outputs_from,
    b_outputs_from := (fun_mk (st := s_outputs_from) l_outputs_from cc_outputs_from kk_outputs_from).binds (ps := ["machine", "state", "word"]) fun _ _ _ _ _ _ us hl => match us, hl with | [_, _, _], _ => rfl,
    g_outputs_from := PySem.W.mg_of X G q_outputs_from,
    F_words_of := fun_mk (st := s_words_of) l_words_of cc_words_of kk_words_of,
    b_words_of := (fun_mk (st := s_words_of) l_words_of cc_words_of kk_words_of).binds (ps := ["letters", "length"]) fun _ _ _ _ _ _ us hl => match us, hl with | [_, _], _ => rfl,
    g_words_of := PySem.W.mg_of X G q_words_of,
    F_word_order := fun_mk (st := s_word_order) l_word_order cc_word_order kk_word_order,
    b_word_order := (fun_mk (st := s_word_order) l_word_order cc_word_order kk_word_order).binds (ps := ["word"]) fun _ _ _ _ _ _ us hl => match us, hl with | [_], _ => rfl,
    g_word_order := PySem.W.mg_of X G q_word_order,
    F_ways_to := fun_mk (st := s_ways_to) l_ways_to cc_ways_to kk_ways_to,
    b_ways_to := (fun_mk (st := s_ways_to) l_ways_to cc_ways_to kk_ways_to).binds (ps := ["machine"]) fun _ _ _ _ _ _ us hl => match us, hl with | [_], _ => rfl,
    g_ways_to := PySem.W.mg_of X G q_ways_to,
    F_telling_words := fun_mk (st := s_telling_words) l_telling_words cc_telling_words kk_telling_words,
    b_telling_words := (fun_mk (st := s_telling_words) l_telling_words cc_telling_words kk_telling_words).binds (ps := ["machine"]) fun _ _ _ _ _ _ us hl => match us, hl with | [_], _ => rfl,
    g_telling_words := PySem.W.mg_of X G q_telling_words,
    F_are_told := fun_mk (st := s_are_told) l_are_told cc_are_told kk_are_told,
    b_are_told := (fun_mk (st := s_are_told) l_are_told cc_are_told kk_are_told).binds (ps := ["words", "first", "second"]) fun _ _ _ _ _ _ us hl => match us, hl with | [_, _, _], _ => rfl,
    g_are_told := PySem.W.mg_of X G q_are_told,
    F_suite_words := fun_mk (st := s_suite_words) l_suite_words cc_suite_words kk_suite_words,
    b_suite_words := (fun_mk (st := s_suite_words) l_suite_words cc_suite_words kk_suite_words).binds (ps := ["machine", "extra"]) fun _ _ _ _ _ _ us hl => match us, hl with | [_, _], _ => rfl,
    g_suite_words := PySem.W.mg_of X G q_suite_words,
    F_most_words := fun_mk (st := s_most_words) l_most_words cc_most_words kk_most_words,
    b_most_words := (fun_mk (st := s_most_words) l_most_words cc_most_words kk_most_words).binds (ps := ["letters", "states", "extra"]) fun _ _ _ _ _ _ us hl => match us, hl with | [_, _, _], _ => rfl,
    g_most_words := PySem.W.mg_of X G q_most_words,
    F_heads := fun_mk (st := s_heads) l_heads cc_heads kk_heads,
    b_heads := (fun_mk (st := s_heads) l_heads cc_heads kk_heads).binds (ps := ["small"]) fun _ _ _ _ _ _ us hl => match us, hl with | [_], _ => rfl,
    g_heads := PySem.W.mg_of X G q_heads,
    F_law_numbers := fun_mk (st := s_law_numbers) l_law_numbers cc_law_numbers kk_law_numbers,
    b_law_numbers := (fun_mk (st := s_law_numbers) l_law_numbers cc_law_numbers kk_law_numbers).binds (ps := ["script", "many"]) fun _ _ _ _ _ _ us hl => match us, hl with | [_, _], _ => rfl,
    g_law_numbers := PySem.W.mg_of X G q_law_numbers,
    F_law_machine := fun_mk (st := s_law_machine) l_law_machine cc_law_machine kk_law_machine,
    b_law_machine := (fun_mk (st := s_law_machine) l_law_machine cc_law_machine kk_law_machine).binds (ps := ["numbers", "at", "letters", "outs", "states"]) fun _ _ _ _ _ _ us hl => match us, hl with | [_, _, _, _, _], _ => rfl,
    g_law_machine := PySem.W.mg_of X G q_law_machine,
    F_law_kinds := fun_mk (st := s_law_kinds) l_law_kinds cc_law_kinds kk_law_kinds,
    b_law_kinds := (fun_mk (st := s_law_kinds) l_law_kinds cc_law_kinds kk_law_kinds).binds (ps := ["machine"]) fun _ _ _ _ _ _ us hl => match us, hl with | [_], _ => rfl,
    g_law_kinds := PySem.W.mg_of X G q_law_kinds,
    F_law_least := fun_mk (st := s_law_least) l_law_least cc_law_least kk_law_least,
    b_law_least := (fun_mk (st := s_law_least) l_law_least cc_law_least kk_law_least).binds (ps := ["machine"]) fun _ _ _ _ _ _ us hl => match us, hl with | [_], _ => rfl,
    g_law_least := PySem.W.mg_of X G q_law_least,
    F_law_along := fun_mk (st := s_law_along) l_law_along cc_law_along kk_law_along,
    b_law_along := (fun_mk (st := s_law_along) l_law_along cc_law_along kk_law_along).binds (ps := ["machine", "state", "word"]) fun _ _ _ _ _ _ us hl => match us, hl with | [_, _, _], _ => rfl,
    g_law_along := PySem.W.mg_of X G q_law_along,
    F_law_differ := fun_mk (st := s_law_differ) l_law_differ cc_law_differ kk_law_differ,
    b_law_differ := (fun_mk (st := s_law_differ) l_law_differ cc_law_differ kk_law_differ).binds (ps := ["first", "second"]) fun _ _ _ _ _ _ us hl => match us, hl with | [_, _], _ => rfl,
    g_law_differ := PySem.W.mg_of X G q_law_differ,
    F_law_twin := fun_mk (st := s_law_twin) l_law_twin cc_law_twin kk_law_twin,
    b_law_twin := (fun_mk (st := s_law_twin) l_law_twin cc_law_twin kk_law_twin).binds (ps := ["machine", "numbers", "extra"]) fun _ _ _ _ _ _ us hl => match us, hl with | [_, _, _], _ => rfl,
    g_law_twin := PySem.W.mg_of X G q_law_twin,
    F_law_spoilt := fun_mk (st := s_law_spoilt) l_law_spoilt cc_law_spoilt kk_law_spoilt,
    b_law_spoilt := (fun_mk (st := s_law_spoilt) l_law_spoilt cc_law_spoilt kk_law_spoilt).binds (ps := ["machine", "numbers", "extra"]) fun _ _ _ _ _ _ us hl => match us, hl with | [_, _, _], _ => rfl,
    g_law_spoilt := PySem.W.mg_of X G q_law_spoilt,
    F_law_lock := fun_mk (st := s_law_lock) l_law_lock cc_law_lock kk_law_lock,
    b_law_lock := (fun_mk (st := s_law_lock) l_law_lock cc_law_lock kk_law_lock).binds (ps := ["numbers", "letters", "states"]) fun _ _ _ _ _ _ us hl => match us, hl with | [_, _, _], _ => rfl,
    g_law_lock := PySem.W.mg_of X G q_law_lock,
    F_law_late := fun_mk (st := s_law_late) l_law_late cc_law_late kk_law_late,
    b_law_late := (fun_mk (st := s_law_late) l_law_late cc_law_late kk_law_late).binds (ps := ["small", "states"]) fun _ _ _ _ _ _ us hl => match us, hl with | [_, _], _ => rfl,
    g_law_late := PySem.W.mg_of X G q_law_late,
    F_law := fun_mk (st := s_law) l_law cc_law kk_law,
    b_law := (fun_mk (st := s_law) l_law cc_law kk_law).binds (ps := ["script"]) fun _ _ _ _ _ _ us hl => match us, hl with | [_], _ => rfl,
    g_law := PySem.W.mg_of X G q_law,
    c_MAX_WORD := ⟨_, PySem.W.mg_of X G vv_MAX_WORD, vr_MAX_WORD⟩,
    c_MAX_EXTRA := ⟨_, PySem.W.mg_of X G vv_MAX_EXTRA, vr_MAX_EXTRA⟩,
    c_MAX_LIST := ⟨_, PySem.W.mg_of X G vv_MAX_LIST, vr_MAX_LIST⟩,
    n_len := PySem.W.mg_none_of X G z_len,
    n_range := PySem.W.mg_none_of X G z_range,
    n_enumerate := PySem.W.mg_none_of X G z_enumerate,
    n_tuple := PySem.W.mg_none_of X G z_tuple,
    n_all := PySem.W.mg_none_of X G z_all,
    n_sorted := PySem.W.mg_none_of X G z_sorted,
    n_any := PySem.W.mg_none_of X G z_any,
    n_max := PySem.W.mg_none_of X G z_max,
    n_abs := PySem.W.mg_none_of X G z_abs,
    n_int := PySem.W.mg_none_of X G z_int,
    n_list := PySem.W.mg_none_of X G z_list,
    n_min := PySem.W.mg_none_of X G z_min }
theorem walk {l : PySem.W.OpenLaw} {q : Program} {loose : List Str} {XP : (Str → Option Value) → Heap → Prop} {YP : World → Heap → Prop} {d : DefRec} {K : Params → PySem.W.Frag} (hn : l.most = some 63) (hdf : d.params.defaults = [])
    (hrec : (((recsOf q).find? fun e => e.name == ("are_below" : Str)).isSome && ((recsOf q).find? fun e => e.name == ("are_told" : Str)).isSome) = true) (hY : ∀ (w : World) (h : Heap), YP w h → (K w.params).In h)
    (F : ∀ (w : World) (mg : Str → Option Value) (fa : Addr) (h : Heap), (K w.params).In h → h.Ns mainGlobals mg → mg d.name = some (.ref fa) →
      ∃ (A : Ads) (c1 P1 c2 P2 : Addr), A.a_law = fa ∧ Txt (K w.params) mg A ∧ (∀ (s : Shared) (v : Value), BindsTo s A.d_law ⟨[v], []⟩ [("script", v)]) ∧ A.d_are_below.code = .ref c1 ∧ PySem.W.tabIn (K w.params) "are_below" = some (c1, P1) ∧ (K w.params).lookup P1 = none ∧
        A.d_are_told.code = .ref c2 ∧ PySem.W.tabIn (K w.params) "are_told" = some (c2, P2) ∧ (K w.params).lookup P2 = none ∧ P1 ≠ P2) :
    PySem.W.WalkO q loose XP YP l.row.toRowW d [] (fun f vs => PySem.call f vs) := by
  refine Att.attach_callB hn hdf fun w s₀ s₁ mg mb fa o pm cd doc a vs ns G Y ho hd hcd hmg hobj hints hlen hbits hg => ?_
  have KX := hY w _ Y
  obtain ⟨A, c1, P1, c2, P2, rfl, T, hb, hc1, ht1, hn1, hc2, ht2, hn2, h12⟩ := F w mg fa _ KX G.T.g hmg
  rw [Bool.and_eq_true] at hrec
  obtain ⟨e1, he1⟩ := Option.isSome_iff_exists.mp hrec.1
  obtain ⟨e2, he2⟩ := Option.isSome_iff_exists.mp hrec.2
  obtain ⟨C1, hP1⟩ := PySem.W.tab_of G.T KX he1 ht1
  obtain ⟨C2, hP2⟩ := PySem.W.tab_of G.T KX he2 ht2
  have m1 : (c1, P1) ∈ [(c1, P1), (c2, P2)] := List.mem_cons_self
  have m2 : (c2, P2) ∈ [(c1, P1), (c2, P2)] := List.mem_cons_of_mem _ List.mem_cons_self
  have nil : TriplesOk (#[] : Array Value).toList := by first | exact .nil | trivial | exact PySem.W.triplesOk_nil | exact fun _ h => absurd h (by simp)
  refine LamX.law_callTs (CX := CX0) (k := 6) (cs := [(c1, P1), (c2, P2)]) (fd := A.d_law) (x := "script") (sp := spLaw (K w.params) P1 P2) KX G.T.g G.T.b G.T.builtins G.T.nolimit hg (fun p hp => ?_) (fun p hp => ?_) (fun p hp => ?_) G.T.bmain hobj hints (Nat.le_trans hlen (by decide)) ⟨rfl, by decide, by decide⟩
    (fun base _ _ hT => ok_law T h12 (ok_told T ⟨(hT _ m1).code, (hT _ m1).bm, (hT _ m1).gP⟩ hc1 ⟨(hT _ m2).code, (hT _ m2).bm, (hT _ m2).gP⟩ hc2 h12)) hb (fun H hH hS => ⟨a, ns, rfl, hS, hlen, ⟨#[], hH _ m1, nil⟩, ⟨#[], hH _ m2, nil⟩, fun _ => rfl⟩) fun _ _ _ z => z
  · rcases List.mem_cons.mp hp with z | z
    · cases z
      exact hP1
    · cases List.mem_singleton.mp z
      exact hP2
  · rcases List.mem_cons.mp hp with z | z
    · cases z
      exact hn1
    · cases List.mem_singleton.mp z
      exact hn2
  · rcases List.mem_cons.mp hp with z | z
    · cases z
      exact C1
    · cases List.mem_singleton.mp z
      exact C2
end K25

set_option Elab.async false
open PySem PySem.W PyProof.Rows in
set_option maxRecDepth 100000 in
set_option maxHeartbeats 0 in
theorem PySem.Challenge.cw_maieutic_k25_whole_suite_tells_near_ones_holds : PySem.Challenge.rw_maieutic_k25_whole_suite_tells_near_ones.Holds := by
  w_on; o_law; k_head; (case hw => w_witness2)
  k_fill
  refine K25.walk (l := PySem.Challenge.rw_maieutic_k25_whole_suite_tells_near_ones) rfl rfl ?hrec (fun w h Y => PySem.W.kIn_of Y) ?F
  (case hrec => first | kernel_rfl | rfl | decide +kernel)
  case F =>
    intro w mg fa h KX G hmg
    refine' K25.all_mk KX G hmg ?r_MaieuticError ?rx_MaieuticError ?rk_MaieuticError ?rb_MaieuticError ?rt_MaieuticError ?rga_MaieuticError ?rgg_MaieuticError ?rh_MaieuticError ?rc_MaieuticError ?rm_MaieuticError ?r_NotAllowed ?rx_NotAllowed ?rk_NotAllowed ?rb_NotAllowed ?rt_NotAllowed ?rga_NotAllowed ?rgg_NotAllowed ?rh_NotAllowed ?rc_NotAllowed ?rm_NotAllowed ?r_Alike ?rx_Alike ?rk_Alike ?rb_Alike ?rt_Alike ?rga_Alike ?rgg_Alike ?rh_Alike ?rc_Alike ?rm_Alike ?ra1 ?ra2 ?rsu_MaieuticError_MaieuticError ?rsu_MaieuticError_NotAllowed ?rsu_MaieuticError_Alike ?rsu_NotAllowed_MaieuticError ?rsu_NotAllowed_NotAllowed ?rsu_NotAllowed_Alike ?rsu_Alike_MaieuticError ?rsu_Alike_NotAllowed ?rsu_Alike_Alike ?q_parting_word ?l_parting_word ?cc_parting_word ?kk_parting_word ?q_check_kin ?l_check_kin ?cc_check_kin ?kk_check_kin ?q_first_parting ?l_first_parting ?cc_first_parting ?kk_first_parting ?q_classes ?l_classes ?cc_classes ?kk_classes ?q_first_places ?l_first_places ?cc_first_places ?kk_first_places ?q_least ?l_least ?cc_least ?kk_least ?q_met_states ?l_met_states ?cc_met_states ?kk_met_states ?q_are_below ?l_are_below ?cc_are_below ?tk_are_below ?tv_are_below ?tn_are_below ?kk_are_below ?q_is_word ?l_is_word ?cc_is_word ?kk_is_word ?q_fits ?l_fits ?cc_fits ?kk_fits ?q_check_word ?l_check_word ?cc_check_word ?kk_check_word ?q_outputs_from ?l_outputs_from ?cc_outputs_from ?kk_outputs_from ?q_words_of ?l_words_of ?cc_words_of ?kk_words_of ?q_word_order ?l_word_order ?cc_word_order ?kk_word_order ?q_ways_to ?l_ways_to ?cc_ways_to ?kk_ways_to ?q_telling_words ?l_telling_words ?cc_telling_words ?kk_telling_words ?q_are_told ?l_are_told ?cc_are_told ?tk_are_told ?tv_are_told ?tn_are_told ?kk_are_told ?q_suite_words ?l_suite_words ?cc_suite_words ?kk_suite_words ?q_most_words ?l_most_words ?cc_most_words ?kk_most_words ?q_heads ?l_heads ?cc_heads ?kk_heads ?q_law_numbers ?l_law_numbers ?cc_law_numbers ?kk_law_numbers ?q_law_machine ?l_law_machine ?cc_law_machine ?kk_law_machine ?q_law_kinds ?l_law_kinds ?cc_law_kinds ?kk_law_kinds ?q_law_least ?l_law_least ?cc_law_least ?kk_law_least ?q_law_along ?l_law_along ?cc_law_along ?kk_law_along ?q_law_differ ?l_law_differ ?cc_law_differ ?kk_law_differ ?q_law_twin ?l_law_twin ?cc_law_twin ?kk_law_twin ?q_law_spoilt ?l_law_spoilt ?cc_law_spoilt ?kk_law_spoilt ?q_law_lock ?l_law_lock ?cc_law_lock ?kk_law_lock ?q_law_late ?l_law_late ?cc_law_late ?kk_law_late ?q_law ?l_law ?cc_law ?kk_law ?vv_MAX_WORD ?vr_MAX_WORD ?vv_MAX_EXTRA ?vr_MAX_EXTRA ?vv_MAX_LIST ?vr_MAX_LIST ?z_len ?z_range ?z_enumerate ?z_tuple ?z_all ?z_sorted ?z_any ?z_max ?z_abs ?z_int ?z_list ?z_min ?nt_are_below_are_told
    (case r_MaieuticError => k_is)
    (case rx_MaieuticError => first | k_exc | k_is)
    (case rk_MaieuticError => k_is)
    (case rb_MaieuticError => k_is)
    (case rt_MaieuticError => k_is)
    (case rga_MaieuticError => k_is)
    (case rgg_MaieuticError => k_is)
    (case rh_MaieuticError => k_is)
    (case rc_MaieuticError => k_is)
    (case rm_MaieuticError => k_is)
    (case r_NotAllowed => k_is)
    (case rx_NotAllowed => first | k_exc | k_is)
    (case rk_NotAllowed => k_is)
    (case rb_NotAllowed => k_is)
    (case rt_NotAllowed => k_is)
    (case rga_NotAllowed => k_is)
    (case rgg_NotAllowed => k_is)
    (case rh_NotAllowed => k_is)
    (case rc_NotAllowed => k_is)
    (case rm_NotAllowed => k_is)
    (case r_Alike => k_is)
    (case rx_Alike => first | k_exc | k_is)
    (case rk_Alike => k_is)
    (case rb_Alike => k_is)
    (case rt_Alike => k_is)
    (case rga_Alike => k_is)
    (case rgg_Alike => k_is)
    (case rh_Alike => k_is)
    (case rc_Alike => k_is)
    (case rm_Alike => k_is)
    (case ra1 => k_is)
    (case ra2 => k_is)
    (case rsu_MaieuticError_MaieuticError => k_is)
    (case rsu_MaieuticError_NotAllowed => k_is)
    (case rsu_MaieuticError_Alike => k_is)
    (case rsu_NotAllowed_MaieuticError => k_is)
    (case rsu_NotAllowed_NotAllowed => k_is)
    (case rsu_NotAllowed_Alike => k_is)
    (case rsu_Alike_MaieuticError => k_is)
    (case rsu_Alike_NotAllowed => k_is)
    (case rsu_Alike_Alike => k_is)
    (case q_parting_word => k_is)
    (case l_parting_word => k_is)
    (case cc_parting_word => k_is)
    (case kk_parting_word => k_is)
    (case q_check_kin => k_is)
    (case l_check_kin => k_is)
    (case cc_check_kin => k_is)
    (case kk_check_kin => k_is)
    (case q_first_parting => k_is)
    (case l_first_parting => k_is)
    (case cc_first_parting => k_is)
    (case kk_first_parting => k_is)
    (case q_classes => k_is)
    (case l_classes => k_is)
    (case cc_classes => k_is)
    (case kk_classes => k_is)
    (case q_first_places => k_is)
    (case l_first_places => k_is)
    (case cc_first_places => k_is)
    (case kk_first_places => k_is)
    (case q_least => k_is)
    (case l_least => k_is)
    (case cc_least => k_is)
    (case kk_least => k_is)
    (case q_met_states => k_is)
    (case l_met_states => k_is)
    (case cc_met_states => k_is)
    (case kk_met_states => k_is)
    (case q_are_below => k_is)
    (case l_are_below => k_is)
    (case cc_are_below => k_is)
    (case tk_are_below => k_is)
    (case tv_are_below => rfl)
    (case tn_are_below => kernel_rfl)
    (case kk_are_below => k_is)
    (case q_is_word => k_is)
    (case l_is_word => k_is)
    (case cc_is_word => k_is)
    (case kk_is_word => k_is)
    (case q_fits => k_is)
    (case l_fits => k_is)
    (case cc_fits => k_is)
    (case kk_fits => k_is)
    (case q_check_word => k_is)
    (case l_check_word => k_is)
    (case cc_check_word => k_is)
    (case kk_check_word => k_is)
    (case q_outputs_from => k_is)
    (case l_outputs_from => k_is)
    (case cc_outputs_from => k_is)
    (case kk_outputs_from => k_is)
    (case q_words_of => k_is)
    (case l_words_of => k_is)
    (case cc_words_of => k_is)
    (case kk_words_of => k_is)
    (case q_word_order => k_is)
    (case l_word_order => k_is)
    (case cc_word_order => k_is)
    (case kk_word_order => k_is)
    (case q_ways_to => k_is)
    (case l_ways_to => k_is)
    (case cc_ways_to => k_is)
    (case kk_ways_to => k_is)
    (case q_telling_words => k_is)
    (case l_telling_words => k_is)
    (case cc_telling_words => k_is)
    (case kk_telling_words => k_is)
    (case q_are_told => k_is)
    (case l_are_told => k_is)
    (case cc_are_told => k_is)
    (case tk_are_told => k_is)
    (case tv_are_told => rfl)
    (case tn_are_told => kernel_rfl)
    (case kk_are_told => k_is)
    (case q_suite_words => k_is)
    (case l_suite_words => k_is)
    (case cc_suite_words => k_is)
    (case kk_suite_words => k_is)
    (case q_most_words => k_is)
    (case l_most_words => k_is)
    (case cc_most_words => k_is)
    (case kk_most_words => k_is)
    (case q_heads => k_is)
    (case l_heads => k_is)
    (case cc_heads => k_is)
    (case kk_heads => k_is)
    (case q_law_numbers => k_is)
    (case l_law_numbers => k_is)
    (case cc_law_numbers => k_is)
    (case kk_law_numbers => k_is)
    (case q_law_machine => k_is)
    (case l_law_machine => k_is)
    (case cc_law_machine => k_is)
    (case kk_law_machine => k_is)
    (case q_law_kinds => k_is)
    (case l_law_kinds => k_is)
    (case cc_law_kinds => k_is)
    (case kk_law_kinds => k_is)
    (case q_law_least => k_is)
    (case l_law_least => k_is)
    (case cc_law_least => k_is)
    (case kk_law_least => k_is)
    (case q_law_along => k_is)
    (case l_law_along => k_is)
    (case cc_law_along => k_is)
    (case kk_law_along => k_is)
    (case q_law_differ => k_is)
    (case l_law_differ => k_is)
    (case cc_law_differ => k_is)
    (case kk_law_differ => k_is)
    (case q_law_twin => k_is)
    (case l_law_twin => k_is)
    (case cc_law_twin => k_is)
    (case kk_law_twin => k_is)
    (case q_law_spoilt => k_is)
    (case l_law_spoilt => k_is)
    (case cc_law_spoilt => k_is)
    (case kk_law_spoilt => k_is)
    (case q_law_lock => k_is)
    (case l_law_lock => k_is)
    (case cc_law_lock => k_is)
    (case kk_law_lock => k_is)
    (case q_law_late => k_is)
    (case l_law_late => k_is)
    (case cc_law_late => k_is)
    (case kk_law_late => k_is)
    (case q_law => k_is)
    (case l_law => k_is)
    (case cc_law => k_is)
    (case kk_law => k_is)
    (case vv_MAX_WORD => k_is)
    (case vr_MAX_WORD => first | rfl | exact ⟨_, rfl⟩)
    (case vv_MAX_EXTRA => k_is)
    (case vr_MAX_EXTRA => first | rfl | exact ⟨_, rfl⟩)
    (case vv_MAX_LIST => k_is)
    (case vr_MAX_LIST => first | rfl | exact ⟨_, rfl⟩)
    (case z_len => k_is)
    (case z_range => k_is)
    (case z_enumerate => k_is)
    (case z_tuple => k_is)
    (case z_all => k_is)
    (case z_sorted => k_is)
    (case z_any => k_is)
    (case z_max => k_is)
    (case z_abs => k_is)
    (case z_int => k_is)
    (case z_list => k_is)
    (case z_min => k_is)
    (case nt_are_below_are_told => first | decide | decide +kernel)
