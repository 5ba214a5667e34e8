import PyProof.Rows.All
import Wide.All
import OpenK.AllK
import Wide.FinOn
import KE.KIsAll
import KE.KTryMore
import HandS.ForMost
import HandS.ForExc
import HandS.ExcIs
import HandS.IsInst
import HandS.Small
import HandS.Codes
import HandS.TupAny
import HandS.AnyAll
import HandS.HotCalls
import KE.LtData
import HandS.FStr
import HandS.EndTab
import KE.KDictDisplayH
import HandS.Comp
import HandS.DictComp
import HandS.DictTup
import HandS.TupLen
import HandS.Iter
import KE.GoesMore
import KE.KeyNested
import HandS.Walk
import HandS.SetKeys
import HandS.Deep
import KE.KDictWalk
import KE.DataMinMax
import HandS.SortKw
import HandS.More
import HandS.Gcd
import HandS.Wide
import HandS.TupLe
import HandS.Style
import KE.KMathGC
import HandS.Conv
import KE.SortKeyHeap
import KE.SortData
import KE.KDictSum
import KE.DataCmp
import HandS.GenList
import PyProof.WalksS
import KE.DataAny
import PyProof.GenCompD
import HandS.Lambda
import KE.DatumOrd
import PyProof.Rows.ChunkEnd
import HandS.EndOwn
import PySem.Challenge.RW_maieutic_k42_beginnings_that_clash
set_option Elab.async false
set_option linter.all false
set_option maxRecDepth 100000
set_option maxHeartbeats 4000000
namespace Mz
open PySem PySem.Spec PyProof.Rows L2
/-! ### calls whose errors are wished for at the slots as they stand -/
section
variable {X : Cx} {CX : CXT} {k : Nat} {f C : Addr} {fd : FuncData} {ps : List Str} {sp : Sp} {E : L2.St → XK} {x m : Str} {p pos apos : Pos} {e o : Expr} {es : List Expr} {ta : TE} {t : TA}
def tMethS (C : Addr) (m : Str) (sp : Sp) (E : L2.St → XK) (ta : TE) (t : TA) : TE := fun σ H Q => ta σ H fun x H1 => ∃ a dx fs, x = .ref a ∧ H1 a = some (.ins C dx fs) ∧ fs.lookup m = none ∧ t σ H1 fun vs H2 => sp (x :: vs) H2 Q (E σ)
theorem pe_methS {pl : Sem Bool} (he : PE X o ta) (c : Cls X.K C) (hm : Meth X.K C m f)
    (F : FnOk X.prog X.w X.K X.mg X.base CX k f fd ps sp) (hr : Room k X.A) (hb : Binds X.K fd ps []) (hx : ∀ σ, PassesAt CX X σ (E σ)) (ha : PA X (e :: es) t)
    (hst : starEach (e :: es) X.env = (false, eval e X.env) :: starEach es X.env := by rfl) (hpl : (backTo pos (starEach es X.env)).any (·.1) = false := by rfl)
    (ht : eval (.Call (.Attribute o m apos) (e :: es) [] pos) X.env = (do
      let ov ← eval o X.env
      standAt apos.atName
      let (f, first) ← holding [ov] (getMethod ov m pl)
      callWith pos f first (backTo pos (starEach (e :: es) X.env)) (backToKw pos (keywordEach [] X.env))) := by rfl) :
    PE X (.Call (.Attribute o m apos) (e :: es) [] pos) (tMethS C m sp E ta t) := by
  refine ⟨fun pins s σ H Q I h => ?_⟩
  refine PySem.W.methodCall_KW (pl := pl) (thn (he.run pins s σ H _ I h) fun u s1 ⟨x, H1, I1, rx, a, dx, fs, ex, ea, l, q⟩ => ?_) ht
  subst ex
  obtain rfl : u = Value.ref a := rx
  refine getmeth_ok I1 ea c hm l ?_
  refine PySem.W.callWith_K (first := [.ref a]) (h₀ := X.base) I.ok.mod.kin hm.kp (thn (ha.run pos pins s1 σ H1 _ I1 q) fun us s2 ⟨vs, H2, I2, r, q2⟩ => ⟨I2.kIn, ?_⟩) hst hpl
  exact run_fnS (us := .ref a :: us) (vs := .ref a :: vs) F hr hb (hx σ) I2 (.cons rfl r) q2
theorem pe_methS0 {pl : Sem Bool} (he : PE X o ta) (c : Cls X.K C) (hm : Meth X.K C m f)
    (F : FnOk X.prog X.w X.K X.mg X.base CX k f fd ps sp) (hr : Room k X.A) (hb : Binds X.K fd ps []) (hx : ∀ σ, PassesAt CX X σ (E σ))
    (ht : eval (.Call (.Attribute o m apos) [] [] pos) X.env = (do
      let ov ← eval o X.env
      standAt apos.atName
      let (f, first) ← holding [ov] (getMethod ov m pl)
      callWith pos f first (backTo pos (starEach [] X.env)) (backToKw pos (keywordEach [] X.env))) := by rfl) :
    PE X (.Call (.Attribute o m apos) [] [] pos) (tMethS C m sp E ta tNil) := by
  refine ⟨fun pins s σ H Q I h => ?_⟩
  refine PySem.W.methodCall_KW (pl := pl) (thn (he.run pins s σ H _ I h) fun u s1 ⟨x, H1, I1, rx, a, dx, fs, ex, ea, l, q⟩ => ?_) ht
  subst ex
  obtain rfl : u = Value.ref a := rx
  refine getmeth_ok I1 ea c hm l ?_
  exact PySem.W.callWith_K0 (first := [.ref a]) I1.kIn hm.kp
    (run_fnS (us := [.ref a]) (vs := [.ref a]) F hr hb (hx σ) I1 (.cons rfl .nil) q)
def tMakeS (C : Addr) (sp : Sp) (E : L2.St → XK) (t : TA) : TE := fun σ H Q =>
  t σ H fun vs H1 => ∀ x dx, H1 x = none → H1 dx = none → dx ≠ x → sp (.ref x :: vs) (upd (upd H1 dx (.own x)) x (.ins C dx [])) (fun v H2 => v = .non ∧ Q (.ref x) H2) (E σ)
theorem run_makeS {pins : List (Addr × Obj)} {σ : L2.St} {H : Hp} {s : Shared} {Q : VK} {us : List Value} {vs : List V} (M : Mk X.K C f)
    (F : FnOk X.prog X.w X.K X.mg X.base CX k f fd ps sp) (hr : Room (k + 1) X.A) (hb : Binds X.K fd ps [])
    (hx : PassesAt CX X σ (E σ)) (I : Inv X pins σ H s) (r : Vals vs us)
    (h : ∀ x dx, H x = none → H dx = none → dx ≠ x → sp (.ref x :: vs) (upd (upd H dx (.own x)) x (.ins C dx [])) (fun v H2 => v = .non ∧ Q (.ref x) H2) (E σ)) :
    wpAny (model X.prog X.w) X.A (call (.ref C) us) (EP X pins σ Q) X.xe s := by
  obtain ⟨dx, hdx⟩ : ∃ n, n = s.heap.objs.size := ⟨_, rfl⟩
  have w := h (s.heap.objs.size + 1) s.heap.objs.size (I.hok.fresh (Nat.le_succ _)) (I.hok.fresh (Nat.le_refl _)) (Nat.ne_of_lt (Nat.lt_succ_self _))
  have J := Inv.made (C := C) I
  have rr : Vals (V.ref (s.heap.objs.size + 1) :: vs) (Value.ref (s.heap.objs.size + 1) :: us) := .cons rfl r
  have len : ((Value.ref (s.heap.objs.size + 1) :: us) ++ []).length = ps.length := by
    have z := rr.length
    rw [F.len _ _ _ _ w] at z
    rw [List.append_nil]
    exact z.symm
  have bb := hb _ (Value.ref (s.heap.objs.size + 1) :: us) J.kIn len
  rw [List.append_nil] at bb
  refine wpAny_call (make_map (f := f) I.kIn M.makes M.init (beq_iff_eq.mp M.fn) (codeAny_mono (F.run _ X.stack _ _ ⟨Value.ref (s.heap.objs.size + 1) :: us, []⟩
    (Value.ref (s.heap.objs.size + 1) :: us) _ _ (E σ) (hr.make C us []) (J.env0.make C us []) bb rr w) fun g s' z => ?_))
  match g, z with
  | .error e, z => exact hx pins _ _ e s' J z
  | .ok (.ret u), z =>
    obtain ⟨v, H', I3, rv, ev, q3⟩ := J.after z
    subst ev
    exact ⟨rv, ⟨V.ref (s.heap.objs.size + 1), H', I3, rfl, q3⟩⟩
  | .ok .next, z => exact z.elim
  | .ok .brk, z => exact z.elim
  | .ok .cont, z => exact z.elim
theorem pe_makeS (M : Mk X.K C f) (F : FnOk X.prog X.w X.K X.mg X.base CX k f fd ps sp) (hr : Room (k + 1) X.A) (hg : Gl X x) (hm : X.mg x = some (.ref C)) (hb : Binds X.K fd ps [])
    (hx : ∀ σ, PassesAt CX X σ (E σ)) (ha : PA X (e :: es) t) (hdb : (x == ("__debug__" : Str)) = false := by decide)
    (he : starEach (e :: es) X.env = (false, eval e X.env) :: starEach es X.env := by rfl) (hpl : (backTo pos (starEach es X.env)).any (·.1) = false := by rfl) :
    PE X (.Call (.Name x p) (e :: es) [] pos) (tMakeS C sp E t) :=
  ⟨fun pins s σ H Q I h => wpAny_Call_Name_kw (ld_glob I hg hm
    (PySem.W.callWith_K (h₀ := X.base) I.ok.mod.kin M.kp (thn (ha.run pos pins s σ H _ I h) fun us s1 ⟨vs, H1, I1, r, q⟩ => ⟨I1.kIn, run_makeS M F hr hb (hx σ) I1 r q⟩) he hpl) hdb)⟩
end
/-! ### isinstance of the error that a suite holds -/
def rIsX (K : PySem.W.Frag) (a : Addr) (cls : Value) (d : Option Addr) : List V → Hp → VK → Prop := fun xs H Q =>
  ∃ (D C : Addr) (b : Bool), cls = .ref D ∧ d = none ∧ ExcC K D ∧ xs = [.ref a, .ref C] ∧ PySem.W.kitOne K (.ref D) (.ref C) = some b ∧ Q (.bl b) H
theorem call_isX {X : Cx} {a : Addr} {cls : Value} {d : Option Addr} {oe : Obj} {pn : List (Addr × Obj)} (hz : Zc cls d oe) (hf : ∃ vs, oe.data = .fields vs) :
    CallR (X.suite a ((a, oe) :: pn)) (.builtin "isinstance") (rIsX X.K a cls d) := by
  rintro pins s σ H xs us Q I r ⟨D, C, b, rfl, rfl, ec, rfl, hk, q⟩
  exact call_isE ec hz hf pins s σ H _ us Q I r ⟨.ref C, .ref C, b, rfl, fun u z => z, hk, q⟩
def rIsXT (K : PySem.W.Frag) (a : Addr) (cls : Value) (d : Option Addr) : List V → Hp → VK → Prop := fun xs H Q =>
  ∃ (D tp : Addr) (cs : List V) (us : List Value) (b : Bool), cls = .ref D ∧ d = none ∧ ExcC K D ∧ xs = [.ref a, .ref tp] ∧ H tp = some (.tup cs) ∧ Paired ClsV cs us ∧ PySem.W.kitAny K (.ref D) us = some b ∧ Q (.bl b) H
theorem call_isXT {X : Cx} {a : Addr} {cls : Value} {d : Option Addr} {oe : Obj} {pn : List (Addr × Obj)} (hz : Zc cls d oe) (hf : ∃ vs, oe.data = .fields vs) :
    CallR (X.suite a ((a, oe) :: pn)) (.builtin "isinstance") (rIsXT X.K a cls d) := by
  rintro pins s σ H xs vs Q I r ⟨D, tp, cs, us, b, rfl, rfl, ec, rfl, hT, k, hk, q⟩
  obtain ⟨u1, u2, rfl, r1, r2⟩ := vals2 r
  cases (show u2 = Value.ref tp from r2)
  cases (show u1 = Value.ref a from r1)
  obtain ⟨hget, _⟩ := I.pin (a, oe) (List.mem_append.mpr (.inl List.mem_cons_self))
  obtain ⟨fv, hv⟩ := hf
  have J : PySem.W.InstAt s.heap a oe D none := by
    obtain ⟨oc, od, oda, osl⟩ := oe
    obtain ⟨h1, h2⟩ := hz
    dsimp only at h1 h2 hv
    subst h1 h2 hv
    exact ⟨hget, rfl, rfl, trivial⟩
  obtain ⟨_, its, rv, ob, h1, h2, n, h3⟩ := (show ObjOk X.prog X.w H s.heap tp (.tup cs) from I.hok tp _ hT)
  have e3 := ClsV.all k rv
  subst e3
  obtain ⟨oc, od, dt, sl⟩ := ob
  simp only at h2 h3
  subst h2 h3
  exact PySem.W.kia_tup (PySem.W.handS_kitx_exc ec.hg ec.hk ec.hs ec.hd ec.ha ec.hn ec.ht ec.hm) I.kIn J h1 hk (fun z => nomatch z)
    fun tk => ⟨.bl b, H, I.kept (t' := tk) fun _ _ z => z, rfl, q⟩
/-- one own error class against another -/
theorem kit_own {K : PySem.W.Frag} {D C : Addr} {b : Bool} (hD : PySem.W.subIn K (.ref D) (.ref D) = some true) (ec : ExcC K C) (ht : PySem.W.typeIn K (.ref C) = some (.type "type"))
    (h : PySem.W.subIn K (.ref D) (.ref C) = some b) : PySem.W.kitOne K (.ref D) (.ref C) = some b := by
  unfold PySem.W.kitOne
  by_cases e : D = C
  · subst e
    rw [hD] at h
    cases h
    rw [if_pos (by simp)]
  · rw [if_neg (by simpa using fun z => e (Value.ref.inj z))]
    have e1 := PySem.W.exm_ref (cls := .ref D) (C := C) ec.hs ec.hd ht h
    unfold PySem.W.exmOne at e1
    split at e1
    · exact e1
    · cases e1
theorem exm_own {K : PySem.W.Frag} {D C : Addr} {b : Bool} (ec : ExcC K C) (ht : PySem.W.typeIn K (.ref C) = some (.type "type")) (h : PySem.W.subIn K (.ref D) (.ref C) = some b) :
    PySem.W.exmOne K (.ref D) (.ref C) = some b := PySem.W.exm_ref ec.hs ec.hd ht h
end Mz

set_option Elab.async false
set_option linter.all false
set_option maxRecDepth 100000
set_option maxHeartbeats 4000000
/-! all(..) of a generator expression over a list or a tuple, by what its element gives for each item -/
namespace Mz
open PySem PySem.Spec PyProof.Rows L2 GxR
section
variable {X : Cx} {pins : List (Addr × Obj)} {σ : L2.St} {H : Hp} {s : Shared}
/-- a generator that will give the truths tr, n of them -/
def ReadyB (X : Cx) (pins : List (Addr × Obj)) (σ : L2.St) (H1 : Hp) (P : Addr) (n : Nat) (tr : Nat → Bool) (g : Addr) (s5 : Shared) : Prop :=
  ∃ (fp wr : List Addr) (G : Array GenState → Array GenState → Prop) (F : Nat → Value → Prop) (St : Nat → Shared → Prop), WalksS X.prog X.w X.A.in1 g fp wr G n F St ∧
    St 0 s5 ∧ TruthOf X.prog X.w X.A.in1 F tr ∧ ∀ s', Moved wr G s5 s' → ∃ H2, Tabbed P H1 H2 ∧ Inv X pins σ H2 s'
/-- the element at the item i, whatever time it is -/
def EltI (X : Cx) (P : Addr) (scope : Scope) (x : Str) (elt : Expr) (s1 : Shared) (Pf : Nat → Value → Prop) (tr : Nat → Bool) : Prop :=
  ∀ (cenv : Env) (A' : Around) (E' : Value → Shared → Prop) (i : Nat) (v : Value) (s₂ : Shared) (m₂ : Str → Option Value), cenv.scope = scope → cenv.cells = cloFrom X.env.cells scope.names [] →
    cenv.globals = X.env.globals → A'.handled = none → A'.units ≤ X.A.units + 8 → Pf i v → s₂.heap.Ns cenv.locals m₂ → m₂ x = some v → (∀ b u, b ≠ P → s1.heap.get? b = some u → s₂.heap.get? b = some u) →
    wpAny (model X.prog X.w) A' (eval elt cenv) (fun y s₃ => y = .bool (tr i) ∧ Keeps s₂ s₃) E' s₂
theorem gen_run {c P : Addr} {elt : Expr} {x : Str} {gpos : Pos} {scope : Scope} {k : Nat} {Q' : Value → Shared → Prop} {xv : Value} {o : Obj} {n : Nat} {Pf : Nat → Value → Prop} {St : Nat → Heap → Prop} {fp : List Addr} {tr : Nat → Bool}
    (hr : Room k X.A) (TB : TabB X.base X.mg c P) (hcode : X.env.code = .ref c) (I : Inv X pins σ H s) (hT : TabG H P)
    (hit : ∀ Q₂ : Value → Shared → Prop, Q₂ (.ref s.heap.objs.size) { s with heap := s.heap.push o } → wpAny (model X.prog X.w) X.A (pyIter xv) Q₂ X.xe s)
    (hW : ∀ A' : Around, A'.handled = none → Walks X.prog X.w A' s.heap.objs.size fp [s.heap.objs.size] n Pf St)
    (hst : ∀ h3 : Heap, (∀ b u, b ≠ P → (s.heap.push o).get? b = some u → h3.get? b = some u) → St 0 h3) (hfp : ∀ b ∈ fp, b ≤ s.heap.objs.size)
    (hel : EltI X P scope x elt s Pf tr) (hQ : ∀ g s5, ReadyB X pins σ H P n tr g s5 → Q' (.ref g) s5) :
    wpAny (model X.prog X.w) X.A (pyIter xv) (fun it s₂ => s₂.heap.NoLimit ∧ wpAny (model X.prog X.w) X.A (genexprCode X.env gpos (X.env.qual ++ "<genexpr>") scope) (fun code s₃ =>
      wpAny (model X.prog X.w) X.A (builtinsFor X.env.globals X.env.builtins) (fun bi s₄ => ∃ I fp wr n₀ P St₀ pz F, it = .ref I ∧ (∀ A' : Around, A'.handled = none → Walks X.prog X.w A' I fp wr n₀ P St₀) ∧ St₀ 0 s₄.heap ∧
        (∀ b ∈ fp, b < s₄.heap.objs.size) ∧ s₄.heap.NoLimit ∧ cStatics ∉ wr ∧ (∀ href : Heap, (∀ b o, s₄.heap.get? b = some o → href.get? b = some o) →
          QuietGenD X.prog X.w (genEnv scope (cloFrom X.env.cells scope.names []) s₄.heap.objs.size code bi X.env) x [] elt (List.range s₄.heap.objs.size) wr P pz F href (X.A.depth + 1) (X.A.units + 8)) ∧
        (∀ a h₅ tk gs, gs.bare = true → s₄.heap.objs.size < a → h₅.objs.size = a + 1 → (∀ b o, s₄.heap.get? b = some o → h₅.get? b = some o) → WalksS X.prog X.w X.A.in4 a (a :: s₄.heap.objs.size :: List.range s₄.heap.objs.size) (s₄.heap.objs.size :: wr)
            (GenOnlyQ s₄.gens.size) (passing pz n₀ 0).length (fun j y => ∃ i, (passing pz n₀ 0)[j]? = some i ∧ F i y) (GenAt X.prog X.w X.A.in4 a s₄.gens.size s₄.heap.objs.size (List.range s₄.heap.objs.size) wr pz n₀ F) →
          GenAt X.prog X.w X.A.in4 a s₄.gens.size s₄.heap.objs.size (List.range s₄.heap.objs.size) wr pz n₀ F 0 { s₄ with gens := s₄.gens.push gs, toks := tk, heap := h₅ } → Q' (.ref a) { s₄ with gens := s₄.gens.push gs, toks := tk, heap := h₅ })) X.xe s₃) X.xe s₂) X.xe s := by
  obtain ⟨ps, hP, ht⟩ := hT
  refine hit _ ?_
  have hPs := I.hok P _ hP
  have hPs : s.heap.get? P = some { cls := .none, data := .fields ps } := hPs
  have Plt := Heap.lt_size hPs
  have hP2 : (s.heap.push o).get? P = some { cls := .none, data := .fields ps } := Heap.get?_push_of_some _ hPs
  have cd := TB.code.keeps fun b u e => Heap.get?_push_of_some o (I.bk b u e)
  have lim2 := I.nolimit.push o
  have stat : cStatics ≠ P ∧ cStatics < s.heap.objs.size := by
    obtain ⟨_, hns, _⟩ := I.nolimit
    refine ⟨fun e => ?_, hns.lt⟩
    obtain ⟨o', es, ep, ho, hd, _⟩ := hns
    rw [e, hPs] at ho
    cases ho
    cases hd
  refine ⟨lim2, ?_⟩
  -- what follows once the code object is there: its table at P holds ps', grown out of ps
  have rest : ∀ (h3 : Heap) (tk : Nat) (more : Array Value), Heap.ExtBut P (s.heap.push o) h3 → (s.heap.push o).objs.size ≤ h3.objs.size → h3.get? P = some { cls := .none, data := .fields (ps ++ more) } → TriplesOk (ps ++ more).toList →
      ∀ (Qb : Addr → Shared → Prop), (∀ bi : Addr, Qb bi { s with heap := h3, toks := tk }) → wpAny (model X.prog X.w) X.A (builtinsFor X.env.globals X.env.builtins) Qb X.xe { s with heap := h3, toks := tk } := by
    intro h3 tk more hx hsz hP3 ht3 Qb hQb
    obtain ⟨bm, ob, e1, e2, e3, e4, e5, e6, e7, e8⟩ := TB.bm
    have old : ∀ b u, b ≠ P → s.heap.get? b = some u → h3.get? b = some u := fun b u hb e => hx b u hb (Heap.get?_push_of_some _ e)
    refine wpAny_builtinsFor (m := X.mg) ?_ e1 e2 (old _ _ e4 (I.bk _ _ e5)) e6 e7 e8 (hQb _)
    rw [I.ok.glob]
    exact ((I.mod.glob.keeps I.bk).push o).extBut hx TB.gP
  have core : ∀ (code : Value) (h3 : Heap) (tk : Nat) (more : Array Value) (bi : Addr), Heap.ExtBut P (s.heap.push o) h3 → (s.heap.push o).objs.size ≤ h3.objs.size → h3.get? P = some { cls := .none, data := .fields (ps ++ more) } → TriplesOk (ps ++ more).toList →
      (∀ b ∈ fp, b < h3.objs.size) ∧ h3.NoLimit ∧ cStatics ∉ [s.heap.objs.size] ∧ (∀ href : Heap, (∀ b o, h3.get? b = some o → href.get? b = some o) →
        QuietGenD X.prog X.w (genEnv scope (cloFrom X.env.cells scope.names []) h3.objs.size code bi X.env) x [] elt (List.range h3.objs.size) [s.heap.objs.size] Pf (fun _ => true) (fun i y => i < n → y = .bool (tr i)) href (X.A.depth + 1) (X.A.units + 8)) := by
    intro code h3 tk more bi hx hsz hP3 ht3
    have sz2 : (s.heap.push o).objs.size = s.heap.objs.size + 1 := Heap.size_push ..
    refine ⟨fun b hb => ?_, lim2.extBut hx stat.1, fun z => ?_, fun href hh => ⟨?_, ?_⟩⟩
    · exact Nat.lt_of_le_of_lt (hfp b hb) (show s.heap.objs.size < h3.objs.size by omega)
    · have z2 := List.mem_singleton.mp z
      exact absurd stat.2 (by rw [z2]; exact Nat.lt_irrefl _)
    · intro A' E' i v s₂ m₂ _ _ _ _ _ _ _
      simp only [List.forIn_nil]
      exact wpAny_pure ⟨rfl, keeps_refl _⟩
    · intro A' E' i v s₂ m₂ hA _ hU hPf _ hn hm hk
      refine wpAny_mono (hel _ A' E' i v s₂ m₂ rfl rfl rfl hA hU hPf hn hm fun b u hb e => ?_) (fun y s₃ q => ⟨fun _ => q.1, q.2⟩) fun _ _ q => q
      have h3b := hx b u hb (Heap.get?_push_of_some _ e)
      refine hk b (List.mem_range.mpr (Heap.lt_size h3b)) (fun z => ?_) u (hh b u h3b)
      rw [List.mem_singleton.mp z] at e
      exact absurd (Heap.lt_size e) (Nat.lt_irrefl _)
  have fin : ∀ (h3 : Heap) (tk : Nat) (more : Array Value), Heap.ExtBut P (s.heap.push o) h3 → (s.heap.push o).objs.size ≤ h3.objs.size → h3.get? P = some { cls := .none, data := .fields (ps ++ more) } → TriplesOk (ps ++ more).toList →
      ∀ (a : Addr) (h₅ : Heap) (tk5 : Nat) (gs : GenState), gs.bare = true → h3.objs.size < a → (∀ b o, h3.get? b = some o → h₅.get? b = some o) →
      WalksS X.prog X.w X.A.in4 a (a :: h3.objs.size :: List.range h3.objs.size) (h3.objs.size :: [s.heap.objs.size]) (GenOnlyQ s.gens.size) (passing (fun _ => true) n 0).length (fun j y => ∃ i, (passing (fun _ => true) n 0)[j]? = some i ∧ (i < n → y = .bool (tr i)))
        (GenAt X.prog X.w X.A.in4 a s.gens.size h3.objs.size (List.range h3.objs.size) [s.heap.objs.size] (fun _ => true) n fun i y => i < n → y = .bool (tr i)) →
      GenAt X.prog X.w X.A.in4 a s.gens.size h3.objs.size (List.range h3.objs.size) [s.heap.objs.size] (fun _ => true) n (fun i y => i < n → y = .bool (tr i)) 0 { s with gens := s.gens.push gs, toks := tk5, heap := h₅ } →
      Q' (.ref a) { s with gens := s.gens.push gs, toks := tk5, heap := h₅ } := by
    intro h3 tk more hx hsz hP3 ht3 a h₅ tk5 gs hgb hag hk5 W5 hat
    have sz2 : (s.heap.push o).objs.size = s.heap.objs.size + 1 := Heap.size_push ..
    have old : ∀ b u, b ≠ P → s.heap.get? b = some u → h3.get? b = some u := fun b u hb e => hx b u hb (Heap.get?_push_of_some _ e)
    simp only [GxR.passing_true, List.length_range] at W5
    refine hQ a _ ⟨_, _, _, _, _, W5.in4_1, hat, ?_, fun s' hm => ?_⟩
    · rintro j y sj Qj Ej ⟨i, hij, hy⟩ hQj
      obtain ⟨hj, ej⟩ := List.getElem?_eq_some_iff.mp hij
      rw [List.length_range] at hj
      rw [List.getElem_range] at ej
      subst ej
      rw [hy hj]
      exact wpAny_truthy_bool hQj
    · have far : ∀ b u, s.heap.get? b = some u → b ∉ h3.objs.size :: [s.heap.objs.size] := fun b u e hb => by
        have l := Heap.lt_size e
        rcases List.mem_cons.mp hb with z | z
        · rw [z] at l
          exact absurd l (Nat.not_lt.mpr (show s.heap.objs.size ≤ h3.objs.size by omega))
        · rw [List.mem_singleton.mp z] at l
          exact Nat.lt_irrefl _ l
      have J := inv_tab (more := more) (h' := s'.heap) (g' := s'.gens) (d' := s'.drawn) (t' := s'.toks) I hP
        (fun b u hb e => hm.heap b u (far b u e) (hk5 b u (old b u hb e))) (hm.heap P _ (far P _ hPs) (hk5 P _ hP3)) (AllBare.movedS (I.bare.push hgb) hm)
      rw [sh_eta s s' hm.os] at J
      exact ⟨_, ⟨⟨_, upd_same, ht3⟩, fun b hb => upd_ne hb⟩, J⟩
  cases hf : codeAmong gpos ps.toList with
  | none =>
    refine wpAny_genexprCodeX hcode (cd.code hP2 ht) (cd.tab hP2) hf fun c' h' tk hx hge hlt hco' _ htab' _ => ?_
    obtain ⟨o1, vs, f1, tf, fl, tg, inF, tx, tt, op, _, _, _, _, _, _, _, _, _, htr, _⟩ := hco'
    have hsz := Nat.le_trans hge (Nat.le_of_lt hlt)
    refine rest h' tk _ hx hsz htab'.2 htr _ fun bi => ?_
    refine ⟨_, fp, _, n, Pf, St, (fun _ => true), (fun i y => i < n → y = .bool (tr i)), rfl, hW, hst h' hx, ?_⟩
    obtain ⟨q1, q2, q3, q4⟩ := core _ h' tk _ bi hx hsz htab'.2 htr
    exact ⟨q1, q2, q3, q4, fun a h₅ tk5 gs g1 g2 _ g4 => fin h' tk _ hx hsz htab'.2 htr a h₅ tk5 gs g1 g2 g4⟩
  | some cv =>
    refine wpAny_genexprCode_hit hcode (cd.code hP2 ht) hf ?_
    have e0 : ps ++ #[] = ps := by simp
    have hP3 : (s.heap.push o).get? P = some { cls := .none, data := .fields (ps ++ #[]) } := by rw [e0]; exact hP2
    have ht3 : TriplesOk (ps ++ #[]).toList := by rw [e0]; exact ht
    have hx0 : Heap.ExtBut P (s.heap.push o) (s.heap.push o) := Heap.ExtBut.refl _ _
    refine rest (s.heap.push o) s.toks #[] hx0 (Nat.le_refl _) hP3 ht3 _ fun bi => ?_
    refine ⟨_, fp, _, n, Pf, St, (fun _ => true), (fun i y => i < n → y = .bool (tr i)), rfl, hW, hst _ hx0, ?_⟩
    obtain ⟨q1, q2, q3, q4⟩ := core cv (s.heap.push o) s.toks #[] bi hx0 (Nat.le_refl _) hP3 ht3
    exact ⟨q1, q2, q3, q4, fun a h₅ tk5 gs g1 g2 _ g4 => fin (s.heap.push o) s.toks #[] hx0 (Nat.le_refl _) hP3 ht3 a h₅ tk5 gs g1 g2 g4⟩
/-- the element for an item v of which G says that it gives b -/
def EltB (X : Cx) (P : Addr) (scope : Scope) (x : Str) (elt : Expr) (G : L2.St → Hp → V → Bool → Prop) : Prop :=
  ∀ (pins : List (Addr × Obj)) (σ : L2.St) (H : Hp) (s1 : Shared) (v : V) (b : Bool), Inv X pins σ H s1 → TabG H P → G σ H v b → ∀ (cenv : Env) (A' : Around) (E' : Value → Shared → Prop) (u : Value) (s₂ : Shared) (m₂ : Str → Option Value),
    cenv.scope = scope → cenv.cells = cloFrom X.env.cells scope.names [] → cenv.globals = X.env.globals → A'.handled = none → A'.units ≤ X.A.units + 8 → RelV v u → s₂.heap.Ns cenv.locals m₂ → m₂ x = some u →
    (∀ b u, b ≠ P → s1.heap.get? b = some u → s₂.heap.get? b = some u) → wpAny (model X.prog X.w) A' (eval elt cenv) (fun y s₃ => y = .bool b ∧ Keeps s₂ s₃) E' s₂
/-- the truths in their places -/
def trAt (f : V → Bool) (vs : List V) (j : Nat) : Bool := match vs[j]? with
  | some z => f z
  | none => true
theorem trAt_all (f : V → Bool) (vs : List V) : (List.range vs.length).all (trAt f vs) = vs.all f := by
  rw [Bool.eq_iff_iff, List.all_eq_true, List.all_eq_true]
  constructor
  · intro h z hz
    obtain ⟨j, hj, e⟩ := List.getElem_of_mem hz
    have q := h j (List.mem_range.mpr hj)
    unfold trAt at q
    rw [List.getElem?_eq_getElem hj, e] at q
    exact q
  · intro h j hj
    unfold trAt
    rw [List.getElem?_eq_getElem (List.mem_range.mp hj)]
    exact h _ (List.getElem_mem _)
/-- all(elt for x in e), e a list or a tuple; behind it the def's table may have grown -/
def tAllQ (K : PySem.W.Frag) (P : Addr) (G : L2.St → Hp → V → Bool → Prop) (te : TE) : TE := fun σ H Q => te σ H fun v H1 =>
  ∃ (a : Addr) (vs : List V) (f : V → Bool), v = .ref a ∧ (SqL K H1 a vs ∨ SqT K H1 a vs) ∧ TabG H1 P ∧ (∀ z ∈ vs, G σ H1 z (f z)) ∧ ∀ H2, Tabbed P H1 H2 → Q (.bl (vs.all f)) H2
theorem pe_allQ {c P : Addr} {elt iter : Expr} {x : Str} {px p pos gpos : Pos} {scope : Scope} {G : L2.St → Hp → V → Bool → Prop} {te : TE} {k : Nat} (hr : Room k X.A) (hg : Gl X "all") (hm : X.mg "all" = none)
    (TB : TabB X.base X.mg c P) (hcode : X.env.code = .ref c) (S : GenS X.env scope x) (hi : PE X iter te) (hel : EltB X P scope x elt G) (hs : ∀ v, genFold iter X.env v = pure v)
    (hb : bootBuiltins "all" = some (.builtin "all") := by decide +kernel)
    (he : starEach [.GeneratorExp elt [⟨.Name x px, iter, [], 0⟩] scope gpos] X.env = (false, eval (.GeneratorExp elt [⟨.Name x px, iter, [], 0⟩] scope gpos) X.env) :: starEach [] X.env := by rfl) :
    PE X (.Call (.Name "all" p) [.GeneratorExp elt [⟨.Name x px, iter, [], 0⟩] scope gpos] [] pos) (tAllQ X.K P G te) := by
  refine ⟨fun pins s σ H Q I h => wpAny_Call_Name_kw (ld_blt I hg hm hb (PyProof.Rows.callWith_builtin1 ?_ he (by rfl)))⟩
  rw [he]
  show wpAny _ _ (spliced ((false, eval (.GeneratorExp elt [⟨.Name x px, iter, [], 0⟩] scope gpos) X.env) :: backTo pos (starEach [] X.env))) _ _ s
  refine Calls.spliced_cons (wpAny_GeneratorExp_walksQD hr.hd S.co (closure_ok S.free) S.cell S.dot S.loc S.kind (by have := hr.dp; omega) ?_ hs)
  refine thn (hi.run pins s σ H _ I h) fun xv s1 ⟨v, H1, I1, r1, a, vs, f, ev, hq, hT, hG, hQ⟩ => ?_
  subst ev
  obtain rfl : xv = Value.ref a := r1
  -- the generator is made: it is walked
  have done : ∀ (n : Nat), n = vs.length → ∀ (g : Addr) (s5 : Shared), ReadyB X pins σ H1 P n (trAt f vs) g s5 → wpAny (model X.prog X.w) X.A (spliced (backTo pos (starEach [] X.env))) (fun ws s6 => wpAny (model X.prog X.w) X.A (call (.builtin "all") (.ref g :: ws)) (EP X pins σ Q) X.xe s6) X.xe s5 := by
    rintro n rfl g s5 ⟨fp, wr, Gq, F, St, W, hst, htr, hI⟩
    refine Calls.spliced_nil ?_
    refine call_all_walkS (W.self 0 _ _ _ hst ⟨g, fp, wr, Gq, _, F, St, _, rfl, W, hst, htr, fun s' hmv => ?_⟩)
    obtain ⟨H2, hT2, J⟩ := hI s' hmv
    refine ⟨.bl _, H2, J, rfl, ?_⟩
    rw [trAt_all]
    exact hQ H2 hT2
  obtain ⟨ps, hP, ht⟩ := id hT
  have hPs : s1.heap.get? P = some { cls := .none, data := .fields ps } := I1.hok P _ hP
  have item : ∀ (its : List Value), Vals vs its → EltI X P scope x elt s1 (fun i v => its.toArray[i]? = some v) (trAt f vs) := by
    intro its rv cenv A' E' i v s₂ m₂ c1 c2 c3 hA hU hv hn hmx hk
    have hv2 : its[i]? = some v := by simpa using hv
    obtain ⟨hl, _⟩ := List.getElem?_eq_some_iff.mp hv2
    rw [← rv.length] at hl
    have hz := List.getElem?_eq_getElem hl
    obtain ⟨u, hu, ru⟩ := rv.get hz
    rw [hv2] at hu
    cases hu
    have e : trAt f vs i = f vs[i] := by
      unfold trAt
      rw [hz]
    rw [e]
    exact hel pins σ H1 s1 vs[i] (f vs[i]) I1 hT (hG _ (List.getElem_mem hl)) cenv A' E' v s₂ m₂ c1 c2 c3 hA hU ru hn hmx hk
  rcases hq with hq | hq
  · obtain ⟨its, rv, pl, _⟩ := I1.list hq
    have hIL := pl.isList
    obtain ⟨ob, e1, e2⟩ := id hIL
    have aP : a ≠ P := fun z => by
      rw [z, hPs] at e1
      cases e1
      obtain ⟨_, _, e4⟩ := e2
      cases e4
    refine gen_run (Q' := fun v s5 => wpAny (model X.prog X.w) X.A (spliced (backTo pos (starEach [] X.env))) (fun ws s6 => wpAny (model X.prog X.w) X.A (call (.builtin "all") (v :: ws)) (EP X pins σ Q) X.xe s6) X.xe s5) (n := its.toArray.size) (Pf := fun i v => its.toArray[i]? = some v) (fp := [s1.heap.objs.size, a]) hr TB hcode I1 hT (fun Q₂ q => wpAny_pyIter_list hIL q) (fun A' hA => Walks.list hA _ _ (Nat.ne_of_lt (Heap.lt_size e1)) _) (fun h3 hx => ⟨?_, ?_⟩) ?_ (item its rv) (fun g s5 hR => ?_)
    · exact ⟨_, hx _ _ (Nat.ne_of_gt (Heap.lt_size hPs)) (Heap.get?_push_size _ rfl), rfl, rfl⟩
    · exact ⟨ob, hx _ _ aP (Heap.get?_push_of_some _ e1), e2⟩
    · intro b hb
      rcases List.mem_cons.mp hb with z | z
      · rw [z]
        exact Nat.le_refl _
      · rw [List.mem_singleton.mp z]
        exact Nat.le_of_lt (Heap.lt_size e1)
    · exact done its.toArray.size (by rw [List.size_toArray, rv.length]) g s5 hR
  · obtain ⟨its, rv, pl, _⟩ := I1.tuple hq
    have hIL : s1.heap.IsTuple a its.toArray := pl
    obtain ⟨ob, e1, e2⟩ := id hIL
    have aP : a ≠ P := fun z => by
      rw [z, hPs] at e1
      cases e1
      obtain ⟨_, _, e4⟩ := e2
      cases e4
    refine gen_run (Q' := fun v s5 => wpAny (model X.prog X.w) X.A (spliced (backTo pos (starEach [] X.env))) (fun ws s6 => wpAny (model X.prog X.w) X.A (call (.builtin "all") (v :: ws)) (EP X pins σ Q) X.xe s6) X.xe s5) (n := its.toArray.size) (Pf := fun i v => its.toArray[i]? = some v) (fp := [s1.heap.objs.size, a]) hr TB hcode I1 hT (fun Q₂ q => wpAny_pyIter_tuple hIL q) (fun A' hA => Walks.tuple hA _ _ (Nat.ne_of_lt (Heap.lt_size e1)) _) (fun h3 hx => ⟨?_, ?_⟩) ?_ (item its rv) (fun g s5 hR => ?_)
    · exact ⟨_, hx _ _ (Nat.ne_of_gt (Heap.lt_size hPs)) (Heap.get?_push_size _ rfl), rfl, rfl⟩
    · exact ⟨ob, hx _ _ aP (Heap.get?_push_of_some _ e1), e2⟩
    · intro b hb
      rcases List.mem_cons.mp hb with z | z
      · rw [z]
        exact Nat.le_refl _
      · rw [List.mem_singleton.mp z]
        exact Nat.le_of_lt (Heap.lt_size e1)
    · exact done its.toArray.size (by rw [List.size_toArray, rv.length]) g s5 hR
/-- 0 <= x < y, y a captured name that stands in the slot j -/
def GBelow (j : Nat) : L2.St → Hp → V → Bool → Prop := fun σ _ v b => ∃ n L : Int, v = .int n ∧ σ[j]? = some (some (.int L)) ∧ b = (decide (0 ≤ n) && decide (n < L))
theorem elt_below {P : Addr} {scope : Scope} {x y : Str} {j jc : Nat} {p0 p1 p2 p3 : Pos} (hk : scope.kind = .function) (hx : scope.names.lookup x = some .local) (hy : scope.names.lookup y = some .free) (hN : X.N[j]? = some y) (hv : X.env.scope.names.lookup y = some .cell)
    (hclo : (cloFrom X.env.cells scope.names []).lookup y = some ((X.env.cells.lookup y).getD 0))
    (hd : (x == ("__debug__" : Str)) = false := by decide) (hd2 : (y == ("__debug__" : Str)) = false := by decide) (hcd : (y == ("__classdict__" : Str)) = false := by decide) :
    EltB X P scope x (.Compare (.Constant (.int 0) jc p0) [.LtE, .Lt] [.Name x p1, .Name y p2] p3) (GBelow j) := by
  rintro pins σ H s1 v b I ⟨ps, hT, _⟩ ⟨n, L, rfl, hj, rfl⟩ cenv A' E' u s₂ m₂ rfl c2 _ _ _ ru hn hm kept
  obtain ⟨t, rfl⟩ := (show ∃ t, u = Value.int n t from ru)
  obtain ⟨m, _, hl⟩ := I.loc
  obtain ⟨uL, rL, look⟩ := hl j y _ hN hj (.inr (.inl hv))
  obtain ⟨tL, rfl⟩ := (show ∃ t, uL = Value.int L t from rL)
  have hP : s1.heap.get? P = some { cls := .none, data := .fields ps } := I.hok P _ hT
  rcases look with ⟨z, _⟩ | ⟨_, cc, hc, hcell⟩
  · rw [show X.env.kindOf y = X.env.scope.names.lookup y from rfl, hv] at z
    cases z
  · have hcell2 : s₂.heap.IsCell cc (some (.int L tL)) := by
      obtain ⟨o, e1, e2⟩ := hcell
      refine ⟨o, kept cc o (fun z => ?_) e1, e2⟩
      rw [z, hP] at e1
      cases e1
      cases e2
    refine Compare_chain (wpAny_Constant_int (chain_link ?_))
    refine wpAny_Name (wpAny_loadName_local hk hx hn hm ?_) hd
    refine le_int (wpAny_truthy_bool ?_)
    by_cases c0 : 0 ≤ n
    · rw [decide_eq_true c0, Bool.true_and]
      refine ite_tt (chain_last (wpAny_Name (wpAny_loadName_free hk hy (c := cc) ?_ hcell2 ?_ hcd) hd2))
      · rw [c2, hclo, hc] <;> rfl
      · exact lt_int ⟨rfl, keeps_tok _ _⟩
    · rw [decide_eq_false c0, Bool.false_and]
      exact ite_ff ⟨rfl, keeps_tok _ _⟩
end
end Mz

set_option Elab.async false
set_option linter.all false
set_option maxRecDepth 100000
set_option maxHeartbeats 4000000
/-! what the laws' own helpers draw: numbers, sizes, machines -/
namespace Mz
open PySem PySem.Spec PyProof.Rows L2
theorem same_upd {H H' : Hp} {p : Addr} {o : HO} (s : Same H H') (h : H' p = none) : Same H (upd H' p o) := fun b u e => by
  rw [upd_ne (ne_of_none (s b u e) h)]
  exact s b u e
theorem same_set {H H' : Hp} {p : Addr} {o : HO} (s : Same H H') (h : H p = none) : Same H (L2.upd H' p o) := fun b u e => by
  rw [upd_ne (ne_of_none e h)]
  exact s b u e
theorem getV {α : Type} {f : α → V} {ns : List α} {j : Nat} {z : α} (h : ns[j]? = some z) : (ns.map f)[j]? = some (f z) := by
  rw [List.getElem?_map, h]
  rfl
theorem ofV {α : Type} {f : α → V} {ns : List α} {j : Nat} {y : V} (h : (ns.map f)[j]? = some y) : ∃ z, ns[j]? = some z ∧ y = f z := by
  rw [List.getElem?_map] at h
  cases e : ns[j]? with
  | none =>
    rw [e] at h
    cases h
  | some z =>
    rw [e] at h
    exact ⟨z, rfl, (Option.some.inj h).symm⟩
theorem atI_get? {α : Type} {f : α → V} {ns : List α} {i : Int} {z : α} (h0 : 0 ≤ i) (h : ns[i.toNat]? = some z) : atI (ns.map f) i = some (f z) := by
  have e : i = ((i.toNat : Nat) : Int) := by omega
  rw [e]
  exact atI_nat (getV h)
theorem take_more {α : Type} : ∀ {l : List α} {i : Nat} {x : α}, l[i]? = some x → l.take (i + 1) = l.take i ++ [x]
  | [], i, x, h => by simp at h
  | a :: l, 0, x, h => by
    have e : a = x := Option.some.inj h
    subst e
    rfl
  | a :: l, i + 1, x, h => by
    have ih := take_more (l := l) (i := i) (x := x) h
    show a :: l.take (i + 1) = a :: l.take i ++ [x]
    rw [ih]
    rfl
/-! ### the numbers -/
/-- what a stream holds -/
structure Strm (ns : List Int) : Prop where
  ne : 0 < ns.length
  few : ns.length ≤ 4000
  ok : ∀ z ∈ ns, 0 ≤ z ∧ z < 1009
/-- the number at a place, below many -/
def pk (ns : List Int) (i many : Int) : Int := ns.getD (i % (ns.length : Int)).toNat 0 % many
theorem pk_lo {ns : List Int} {i many : Int} (h : 0 < many) : 0 ≤ pk ns i many := Int.emod_nonneg _ (by omega)
theorem pk_hi {ns : List Int} {i many : Int} (h : 0 < many) : pk ns i many < many := Int.emod_lt_of_pos _ h
theorem pk_at {ns : List Int} (i : Int) (h : 0 < ns.length) : ∃ z, ns[(i % (ns.length : Int)).toNat]? = some z ∧ ns.getD (i % (ns.length : Int)).toNat 0 = z ∧ 0 ≤ i % (ns.length : Int) := by
  have h0 := Int.emod_nonneg i (show (ns.length : Int) ≠ 0 by omega)
  have h1 := Int.emod_lt_of_pos i (show 0 < (ns.length : Int) by omega)
  have lt : (i % (ns.length : Int)).toNat < ns.length := by omega
  refine ⟨ns[(i % (ns.length : Int)).toNat], List.getElem?_eq_getElem lt, ?_, h0⟩
  rw [List.getD_eq_getElem?_getD, List.getElem?_eq_getElem lt]
  rfl
/-! ### machines -/
structure Mach where
  ls : Int
  os : Int
  rows : List (List Int)
  outs : List Int
/-- a tuple of ints -/
def IT (H : Hp) (a : Addr) (ns : List Int) : Prop := H a = some (.tup (ns.map V.int))
/-- the machine M stands at m -/
structure MAt (H : Hp) (m : Addr) (M : Mach) (mv ou : Addr) (rs : List Addr) : Prop where
  top : H m = some (.tup [.int M.ls, .int M.os, .ref mv, .ref ou])
  mv : H mv = some (.tup (rs.map V.ref))
  ou : IT H ou M.outs
  len : rs.length = M.rows.length
  row : ∀ (i : Nat) (r : Addr) (w : List Int), rs[i]? = some r → M.rows[i]? = some w → IT H r w
def MA (H : Hp) (m : Addr) (M : Mach) : Prop := ∃ mv ou rs, MAt H m M mv ou rs
theorem MAt.same {H H' : Hp} {m : Addr} {M : Mach} {mv ou : Addr} {rs : List Addr} (h : MAt H m M mv ou rs) (s : Same H H') : MAt H' m M mv ou rs :=
  ⟨s _ _ h.top, s _ _ h.mv, s _ _ h.ou, h.len, fun i r w a b => s _ _ (h.row i r w a b)⟩
theorem MA.same {H H' : Hp} {m : Addr} {M : Mach} (h : MA H m M) (s : Same H H') : MA H' m M := by
  obtain ⟨mv, ou, rs, h⟩ := h
  exact ⟨mv, ou, rs, h.same s⟩
/-- what check_machine asks -/
structure Good (M : Mach) : Prop where
  l1 : 1 ≤ M.ls
  l4 : M.ls ≤ 4
  o1 : 1 ≤ M.os
  o6 : M.os ≤ 6
  s1 : 1 ≤ M.rows.length
  s30 : M.rows.length ≤ 30
  ol : M.outs.length = M.rows.length
  rl : ∀ w ∈ M.rows, (w.length : Int) = M.ls
  rb : ∀ w ∈ M.rows, ∀ z ∈ w, 0 ≤ z ∧ z < (M.rows.length : Int)
  ob : ∀ z ∈ M.outs, 0 ≤ z ∧ z < M.os
/-- the next state -/
def Mach.next (M : Mach) (s a : Int) : Int := (M.rows.getD s.toNat []).getD a.toNat 0
def Mach.run (M : Mach) (s : Int) (w : List Int) : Int := w.foldl M.next s
def Mach.out (M : Mach) (s : Int) : Int := M.outs.getD s.toNat 0
/-- a state -/
def Mach.St (M : Mach) (s : Int) : Prop := 0 ≤ s ∧ s < (M.rows.length : Int)
/-- letters -/
def Lt (k : Int) (w : List Int) : Prop := ∀ z ∈ w, 0 ≤ z ∧ z < k
theorem Good.st0 {M : Mach} (g : Good M) : M.St 0 := ⟨by decide, by have := g.s1; omega⟩
theorem Good.row {M : Mach} (g : Good M) {s : Int} (h : M.St s) : ∃ w, M.rows[s.toNat]? = some w ∧ w ∈ M.rows ∧ M.rows.getD s.toNat [] = w := by
  have lt : s.toNat < M.rows.length := by have := h.1; have := h.2; omega
  refine ⟨M.rows[s.toNat], List.getElem?_eq_getElem lt, List.getElem_mem lt, ?_⟩
  rw [List.getD_eq_getElem?_getD, List.getElem?_eq_getElem lt]
  rfl
theorem Good.step {M : Mach} (g : Good M) {s a : Int} (h : M.St s) (h0 : 0 ≤ a) (h1 : a < M.ls) : M.St (M.next s a) ∧ ∃ w, M.rows[s.toNat]? = some w ∧ w[a.toNat]? = some (M.next s a) := by
  obtain ⟨w, e1, e2, e3⟩ := g.row h
  have l := g.rl w e2
  have lt : a.toNat < w.length := by omega
  have e : M.next s a = w[a.toNat] := by
    unfold Mach.next
    rw [e3, List.getD_eq_getElem?_getD, List.getElem?_eq_getElem lt]
    rfl
  rw [e]
  exact ⟨g.rb w e2 _ (List.getElem_mem lt), w, e1, List.getElem?_eq_getElem lt⟩
theorem Good.outp {M : Mach} (g : Good M) {s : Int} (h : M.St s) : M.outs[s.toNat]? = some (M.out s) ∧ 0 ≤ M.out s ∧ M.out s < M.os := by
  have lt : s.toNat < M.outs.length := by have := h.1; have := h.2; have := g.ol; omega
  have e : M.out s = M.outs[s.toNat] := by
    unfold Mach.out
    rw [List.getD_eq_getElem?_getD, List.getElem?_eq_getElem lt]
    rfl
  rw [e]
  exact ⟨List.getElem?_eq_getElem lt, g.ob _ (List.getElem_mem lt)⟩
theorem Good.runs {M : Mach} (g : Good M) : ∀ {w : List Int} {s : Int}, M.St s → Lt M.ls w → M.St (M.run s w)
  | [], s, h, _ => h
  | a :: w, s, h, hw => Good.runs g (w := w) (g.step h (hw a (.head _)).1 (hw a (.head _)).2).1 fun z hz => hw z (.tail _ hz)
theorem run_snoc (M : Mach) (s : Int) (w : List Int) (a : Int) : M.run s (w ++ [a]) = M.next (M.run s w) a := by
  unfold Mach.run
  rw [List.foldl_append]
  rfl
/-! ### reading the parts of a machine -/
section
variable {K : PySem.W.Frag} {H : Hp} {m : Addr} {M : Mach} {mv ou : Addr} {rs : List Addr}
theorem MAt.rowAt (h : MAt H m M mv ou rs) {s : Int} (h0 : 0 ≤ s) {w : List Int} (e : M.rows[s.toNat]? = some w) : ∃ r, atI (rs.map V.ref) s = some (.ref r) ∧ IT H r w := by
  obtain ⟨lt, _⟩ := List.getElem?_eq_some_iff.mp e
  have lt2 : s.toNat < rs.length := by rw [h.len]; exact lt
  exact ⟨rs[s.toNat], atI_get? h0 (List.getElem?_eq_getElem lt2), h.row _ _ _ (List.getElem?_eq_getElem lt2) e⟩
end
end Mz

set_option Elab.async false
set_option linter.all false
set_option maxRecDepth 100000
set_option maxHeartbeats 4000000
/-! words in their order as numbers; pairs of states; the first word that parts a pair -/
namespace Mz
open PySem PySem.Spec PyProof.Rows L2
/-- words of letters below 4, in their order -/
def code (w : List Int) : Nat := w.foldl (fun n a => 5 * n + a.toNat + 1) 0
theorem code_snoc (w : List Int) (a : Int) : code (w ++ [a]) = 5 * code w + a.toNat + 1 := by
  unfold code
  rw [List.foldl_append]
  rfl
theorem snoc_ind {α : Type} {P : List α → Prop} (h0 : P []) (hs : ∀ w a, P w → P (w ++ [a])) (w : List α) : P w := by
  have key : ∀ (n : Nat) (w : List α), w.length = n → P w := by
    intro n
    induction n with
    | zero => intro w e; rw [List.length_eq_zero_iff.mp e]; exact h0
    | succ n ih =>
      intro w e
      have ne : w ≠ [] := fun z => by rw [z] at e; cases e
      rw [← List.dropLast_concat_getLast ne]
      exact hs _ _ (ih _ (by rw [List.length_dropLast, e]; rfl))
  exact key _ w rfl
theorem code_inj {k : Int} (hk : k ≤ 4) : ∀ (u v : List Int), Lt k u → Lt k v → code u = code v → u = v := by
  intro u
  induction u using snoc_ind with
  | h0 =>
    intro v _ hv e
    induction v using snoc_ind with
    | h0 => rfl
    | hs v b _ =>
      rw [code_snoc] at e
      have : code ([] : List Int) = 0 := rfl
      omega
  | hs u a ih =>
    intro v hu hv e
    induction v using snoc_ind with
    | h0 =>
      rw [code_snoc] at e
      have : code ([] : List Int) = 0 := rfl
      omega
    | hs v b _ =>
      rw [code_snoc, code_snoc] at e
      have ha := hu a (by simp)
      have hb := hv b (by simp)
      have e1 : a = b := by omega
      subst e1
      rw [ih v (fun z hz => hu z (by simp [hz])) (fun z hz => hv z (by simp [hz])) (by omega)]
theorem code_cons (a : Int) : ∀ w : List Int, code (a :: w) = (a.toNat + 1) * 5 ^ w.length + code w := by
  intro w
  induction w using snoc_ind with
  | h0 =>
    show 5 * 0 + a.toNat + 1 = (a.toNat + 1) * 5 ^ 0 + 0
    omega
  | hs w b ih =>
    rw [← List.cons_append, code_snoc, code_snoc, ih, List.length_append, List.length_singleton, Nat.pow_succ]
    have e : (a.toNat + 1) * (5 ^ w.length * 5) = 5 * ((a.toNat + 1) * 5 ^ w.length) := by
      rw [← Nat.mul_assoc, Nat.mul_comm]
    rw [e]
    omega
theorem code_lt {k : Int} (hk : k ≤ 4) : ∀ {w : List Int}, Lt k w → code w < 5 ^ w.length := by
  intro w
  induction w using snoc_ind with
  | h0 => intro _; show 0 < 1; omega
  | hs w b ih =>
    intro h
    have i := ih fun z hz => h z (by simp [hz])
    have hb := h b (by simp)
    rw [code_snoc, List.length_append, List.length_singleton, Nat.pow_succ]
    omega
theorem code_ge : ∀ w : List Int, 5 ^ w.length ≤ 4 * code w + 1 := by
  intro w
  induction w using snoc_ind with
  | h0 => show 1 ≤ _; omega
  | hs w b ih =>
    rw [code_snoc, List.length_append, List.length_singleton, Nat.pow_succ]
    omega
/-- a shorter word comes first -/
theorem code_short {k : Int} (hk : k ≤ 4) {u v : List Int} (hu : Lt k u) (h : u.length < v.length) : code u < code v := by
  have h1 := code_lt hk hu
  have h2 := code_ge v
  have h3 : 5 ^ (u.length + 1) ≤ 5 ^ v.length := Nat.pow_le_pow_right (by decide) h
  rw [Nat.pow_succ] at h3
  omega
/-! ### pairs of states -/
abbrev Pr := Int × Int
section
variable (M N : Mach)
def stepP (p : Pr) (a : Int) : Pr := (M.next p.1 a, N.next p.2 a)
def runP (p : Pr) (w : List Int) : Pr := w.foldl (stepP M N) p
def Bad (p : Pr) : Prop := M.out p.1 ≠ N.out p.2
/-- both are states -/
def InP (p : Pr) : Prop := M.St p.1 ∧ N.St p.2
/-- machines of a kind -/
structure Kin : Prop where
  gm : Good M
  gn : Good N
  ls : M.ls = N.ls
/-- w is the first word that parts p -/
structure Part (p : Pr) (w : List Int) : Prop where
  lt : Lt M.ls w
  bad : Bad M N (runP M N p w)
  min : ∀ v, Lt M.ls v → Bad M N (runP M N p v) → code w ≤ code v
/-- no word parts p -/
def NoPart (p : Pr) : Prop := ∀ v, Lt M.ls v → ¬ Bad M N (runP M N p v)
end
section
variable {M N : Mach}
theorem runP_snoc (p : Pr) (w : List Int) (a : Int) : runP M N p (w ++ [a]) = stepP M N (runP M N p w) a := by
  unfold runP
  rw [List.foldl_append]
  rfl
theorem runP_cons (p : Pr) (w : List Int) (a : Int) : runP M N p (a :: w) = runP M N (stepP M N p a) w := rfl
theorem Kin.step (k : Kin M N) {p : Pr} (h : InP M N p) {a : Int} (h0 : 0 ≤ a) (h1 : a < M.ls) : InP M N (stepP M N p a) :=
  ⟨(k.gm.step h.1 h0 h1).1, (k.gn.step h.2 h0 (by rw [← k.ls]; exact h1)).1⟩
theorem Part.uniq (k : Kin M N) {p : Pr} {u v : List Int} (hu : Part M N p u) (hv : Part M N p v) : u = v :=
  code_inj k.gm.l4 u v hu.lt hv.lt (Nat.le_antisymm (hu.min v hv.lt hv.bad) (hv.min u hu.lt hu.bad))
theorem Part.not (k : Kin M N) {p : Pr} {u : List Int} (hu : Part M N p u) (hn : NoPart M N p) : False := hn u hu.lt hu.bad
theorem lt_snoc {k : Int} {w : List Int} {a : Int} : Lt k (w ++ [a]) ↔ Lt k w ∧ 0 ≤ a ∧ a < k := by
  constructor
  · intro h
    exact ⟨fun z hz => h z (by simp [hz]), h a (by simp)⟩
  · rintro ⟨h1, h2⟩ z hz
    rcases List.mem_append.mp hz with e | e
    · exact h1 z e
    · rw [List.mem_singleton.mp e]
      exact h2
/-! ### the search by widths -/
structure Nd where
  pr : Pr
  wd : List Int
  ta : Addr
  wa : Addr
/-- all places below pl are done, at pl the letters below a -/
structure Bfs (M N : Mach) (st : Pr) (L : List Nd) (pl a : Nat) : Prop where
  fst : ∃ n, L[0]? = some n ∧ n.pr = st ∧ n.wd = []
  inc : ∀ (i j : Nat) (x y : Nd), L[i]? = some x → L[j]? = some y → i < j → code x.wd < code y.wd
  run : ∀ x ∈ L, runP M N st x.wd = x.pr ∧ Lt M.ls x.wd ∧ InP M N x.pr
  done : ∀ (i b : Nat) (x : Nd), L[i]? = some x → (i < pl ∨ i = pl ∧ b < a) → (b : Int) < M.ls → ∃ y ∈ L, y.pr = stepP M N x.pr b ∧ code y.wd ≤ 5 * code x.wd + b + 1
  good : ∀ (i : Nat) (x : Nd), L[i]? = some x → (i < pl ∨ i = pl ∧ 0 < a) → ¬ Bad M N x.pr
  gen : ∀ (j : Nat) (y : Nd), L[j]? = some y → code y.wd = 0 ∨ ∃ (i b : Nat) (x : Nd), L[i]? = some x ∧ (i < pl ∨ i = pl ∧ b < a) ∧ (b : Int) < M.ls ∧ code y.wd = 5 * code x.wd + b + 1
  nod : (L.map (·.pr)).Nodup
  len : ∀ x ∈ L, x.wd.length ≤ L.length
theorem Bfs.here {st : Pr} {L : List Nd} {pl a : Nat} (B : Bfs M N st L pl a) {i : Nat} {x : Nd} (h : L[i]? = some x) : x ∈ L := List.mem_of_getElem? h
theorem Bfs.start (k : Kin M N) {st : Pr} (h : InP M N st) {t w : Addr} : Bfs M N st [⟨st, [], t, w⟩] 0 0 where
  fst := ⟨_, rfl, rfl, rfl⟩
  inc := fun i j x y hi hj lt => by
    have h1 := (List.getElem?_eq_some_iff.mp hj).1
    simp at h1
    omega
  run := fun x hx => by
    rw [List.mem_singleton.mp hx]
    exact ⟨rfl, fun z hz => absurd hz (by simp), h⟩
  done := fun i b x _ o => by
    rcases o with o | o
    · exact absurd o (Nat.not_lt_zero _)
    · exact absurd o.2 (Nat.not_lt_zero _)
  good := fun i x _ o => by
    rcases o with o | o
    · exact absurd o (Nat.not_lt_zero _)
    · exact absurd o.2 (Nat.not_lt_zero _)
  gen := fun j y hy => by
    rw [List.mem_singleton.mp (List.mem_of_getElem? hy)]
    exact .inl rfl
  nod := by simp
  len := fun x hx => by
    rw [List.mem_singleton.mp hx]
    exact Nat.zero_le _
/-- each word is led by a done place, or not before the place -/
theorem Bfs.claim (k : Kin M N) {st : Pr} {L : List Nd} {pl : Nat} (B : Bfs M N st L pl 0) : ∀ v : List Int, Lt M.ls v →
    (∃ (i : Nat) (x : Nd), L[i]? = some x ∧ i < pl ∧ x.pr = runP M N st v ∧ code x.wd ≤ code v) ∨ ∃ (i : Nat) (x : Nd), L[i]? = some x ∧ pl ≤ i ∧ code x.wd ≤ code v := by
  intro v
  induction v using snoc_ind with
  | h0 =>
    intro _
    obtain ⟨n, e, e1, e2⟩ := B.fst
    by_cases h : 0 < pl
    · exact .inl ⟨0, n, e, h, e1, by rw [e2]; exact Nat.le_refl _⟩
    · exact .inr ⟨0, n, e, by omega, by rw [e2]; exact Nat.le_refl _⟩
  | hs v a ih =>
    intro hv
    obtain ⟨hv1, a0, a1⟩ := lt_snoc.mp hv
    rw [code_snoc]
    rcases ih hv1 with ⟨i, x, e, lt, e1, e2⟩ | ⟨i, x, e, le, e2⟩
    · obtain ⟨y, hy, y1, y2⟩ := B.done i a.toNat x e (.inl lt) (by omega)
      obtain ⟨j, hj, ej⟩ := List.getElem_of_mem hy
      have hj2 : L[j]? = some y := by rw [List.getElem?_eq_getElem hj, ej]
      have ea : ((a.toNat : Nat) : Int) = a := by omega
      by_cases h : j < pl
      · exact .inl ⟨j, y, hj2, h, by rw [runP_snoc, ← e1, y1, ea], by omega⟩
      · exact .inr ⟨j, y, hj2, by omega, by omega⟩
    · exact .inr ⟨i, x, e, le, by omega⟩
theorem Bfs.found (k : Kin M N) {st : Pr} {L : List Nd} {pl : Nat} (B : Bfs M N st L pl 0) {x : Nd} (hx : L[pl]? = some x) (hb : Bad M N x.pr) : Part M N st x.wd where
  lt := (B.run x (B.here hx)).2.1
  bad := by
    rw [(B.run x (B.here hx)).1]
    exact hb
  min := fun v hv hb2 => by
    rcases B.claim k v hv with ⟨i, y, e, lt, e1, e2⟩ | ⟨i, y, e, le, e2⟩
    · rw [← e1] at hb2
      exact absurd hb2 (B.good i y e (.inl lt))
    · by_cases h : pl = i
      · subst h
        rw [hx] at e
        cases e
        exact e2
      · have := B.inc pl i x y hx e (by omega)
        omega
theorem Bfs.none (k : Kin M N) {st : Pr} {L : List Nd} (B : Bfs M N st L L.length 0) : NoPart M N st := fun v hv hb => by
  rcases B.claim k v hv with ⟨i, y, e, lt, e1, e2⟩ | ⟨i, y, e, le, e2⟩
  · rw [← e1] at hb
    exact B.good i y e (.inl lt) hb
  · have := (List.getElem?_eq_some_iff.mp e).1
    omega
theorem Bfs.enter {st : Pr} {L : List Nd} {pl : Nat} (B : Bfs M N st L pl 0) {x : Nd} (hx : L[pl]? = some x) (hb : ¬ Bad M N x.pr) : True := trivial
/-- the letter's pair is there -/
theorem Bfs.old (k : Kin M N) {st : Pr} {L : List Nd} {pl a : Nat} (B : Bfs M N st L pl a) {x : Nd} (hx : L[pl]? = some x) (hb : ¬ Bad M N x.pr) (ha : (a : Int) < M.ls) {y : Nd} (hy : y ∈ L) (e : y.pr = stepP M N x.pr a) : Bfs M N st L pl (a + 1) where
  fst := B.fst
  inc := B.inc
  run := B.run
  done := fun i b z hz o hb2 => by
    rcases o with o | ⟨o1, o2⟩
    · exact B.done i b z hz (.inl o) hb2
    · by_cases h : b = a
      · subst h o1
        rw [hx] at hz
        cases hz
        refine ⟨y, hy, e, ?_⟩
        obtain ⟨j, hj, ej⟩ := List.getElem_of_mem hy
        have hj2 : L[j]? = some y := by rw [List.getElem?_eq_getElem hj, ej]
        rcases B.gen j y hj2 with q | ⟨i2, b2, x2, q1, q2, q3, q4⟩
        · omega
        · rcases q2 with q2 | ⟨q2, q5⟩
          · have := B.inc i2 i x2 x q1 hx q2
            have := k.gm.l4
            omega
          · subst q2
            rw [hx] at q1
            cases q1
            omega
      · exact B.done i b z hz (.inr ⟨o1, by omega⟩) hb2
  good := fun i z hz o => by
    rcases o with o | ⟨o1, o2⟩
    · exact B.good i z hz (.inl o)
    · subst o1
      rw [hx] at hz
      cases hz
      exact hb
  gen := fun j z hz => by
    rcases B.gen j z hz with q | ⟨i2, b2, x2, q1, q2, q3, q4⟩
    · exact .inl q
    · refine .inr ⟨i2, b2, x2, q1, ?_, q3, q4⟩
      rcases q2 with q2 | ⟨q2, q5⟩
      · exact .inl q2
      · exact .inr ⟨q2, by omega⟩
  nod := B.nod
  len := B.len
theorem get_app {α : Type} {l : List α} {z y : α} {i : Nat} (h : (l ++ [z])[i]? = some y) : l[i]? = some y ∨ (i = l.length ∧ y = z) := by
  by_cases c : i < l.length
  · rw [List.getElem?_append_left c] at h
    exact .inl h
  · have lt := (List.getElem?_eq_some_iff.mp h).1
    rw [List.length_append, List.length_singleton] at lt
    have e : i = l.length := by omega
    subst e
    rw [List.getElem?_append_right (Nat.le_refl _), Nat.sub_self] at h
    cases h
    exact .inr ⟨rfl, rfl⟩
theorem get_app1 {α : Type} {l : List α} {z y : α} {i : Nat} (h : l[i]? = some y) : (l ++ [z])[i]? = some y := by
  rw [List.getElem?_append_left (List.getElem?_eq_some_iff.mp h).1]
  exact h
/-- the letter's pair is new -/
theorem Bfs.push (k : Kin M N) {st : Pr} {L : List Nd} {pl a : Nat} (B : Bfs M N st L pl a) {x : Nd} (hx : L[pl]? = some x) (hb : ¬ Bad M N x.pr) (ha : (a : Int) < M.ls) {t w : Addr} (new : ∀ y ∈ L, y.pr ≠ stepP M N x.pr a) :
    Bfs M N st (L ++ [⟨stepP M N x.pr a, x.wd ++ [(a : Int)], t, w⟩]) pl (a + 1) := by
  have l4 := k.gm.l4
  have big : ∀ (j : Nat) (y : Nd), L[j]? = some y → code y.wd < 5 * code x.wd + a + 1 := fun j y hy => by
    rcases B.gen j y hy with q | ⟨i2, b2, x2, q1, q2, q3, q4⟩
    · omega
    · rcases q2 with q2 | ⟨q2, q5⟩
      · have := B.inc i2 pl x2 x q1 hx q2
        omega
      · subst q2
        rw [hx] at q1
        cases q1
        omega
  have cn : code (x.wd ++ [(a : Int)]) = 5 * code x.wd + a + 1 := by rw [code_snoc]; omega
  obtain ⟨r1, r2, r3⟩ := B.run x (B.here hx)
  refine ⟨?_, ?_, ?_, ?_, ?_, ?_, ?_, ?_⟩
  · obtain ⟨n, e, e2⟩ := B.fst
    exact ⟨n, get_app1 e, e2⟩
  · intro i j u v hu hv lt
    rcases get_app hv with hv | ⟨ev, rfl⟩
    · rcases get_app hu with hu | ⟨eu, rfl⟩
      · exact B.inc i j u v hu hv lt
      · have := (List.getElem?_eq_some_iff.mp hv).1
        omega
    · rcases get_app hu with hu | ⟨eu, rfl⟩
      · show code u.wd < code (x.wd ++ [(a : Int)])
        rw [cn]
        exact big i u hu
      · omega
  · intro y hy
    rcases List.mem_append.mp hy with e | e
    · exact B.run y e
    · rw [List.mem_singleton.mp e]
      exact ⟨by rw [runP_snoc, r1], lt_snoc.mpr ⟨r2, by omega, ha⟩, k.step r3 (by omega) ha⟩
  · intro i b z hz o hb2
    have old : ∀ {y : Nd}, L[i]? = some z → ((i < pl) ∨ (i = pl ∧ b < a)) → ∃ y ∈ L ++ [⟨stepP M N x.pr a, x.wd ++ [(a : Int)], t, w⟩], y.pr = stepP M N z.pr b ∧ code y.wd ≤ 5 * code z.wd + b + 1 := fun {y} h1 h2 => by
      obtain ⟨y, hy, q⟩ := B.done i b z h1 h2 hb2
      exact ⟨y, List.mem_append.mpr (.inl hy), q⟩
    have lt : i < L.length := by
      have := (List.getElem?_eq_some_iff.mp hx).1
      omega
    rcases get_app hz with h0 | ⟨ez, _⟩
    · rcases o with o | ⟨o1, o2⟩
      · exact old (y := x) h0 (.inl o)
      · by_cases h : b = a
        · subst h o1
          rw [hx] at h0
          cases h0
          exact ⟨_, List.mem_append.mpr (.inr List.mem_cons_self), rfl, by show code (x.wd ++ [(b : Int)]) ≤ _; rw [cn]; omega⟩
        · exact old (y := x) h0 (.inr ⟨o1, by omega⟩)
    · omega
  · intro i z hz o
    have lt : i < L.length := by
      have := (List.getElem?_eq_some_iff.mp hx).1
      omega
    rcases get_app hz with hz | ⟨ez, _⟩
    · rcases o with o | ⟨o1, o2⟩
      · exact B.good i z hz (.inl o)
      · subst o1
        rw [hx] at hz
        cases hz
        exact hb
    · omega
  · intro j z hz
    rcases get_app hz with hz | ⟨ez, rfl⟩
    · rcases B.gen j z hz with q | ⟨i2, b2, x2, q1, q2, q3, q4⟩
      · exact .inl q
      · refine .inr ⟨i2, b2, x2, get_app1 q1, ?_, q3, q4⟩
        rcases q2 with q2 | ⟨q2, q5⟩
        · exact .inl q2
        · exact .inr ⟨q2, by omega⟩
    · exact .inr ⟨pl, a, x, get_app1 hx, .inr ⟨rfl, by omega⟩, ha, by rw [cn]⟩
  · rw [List.map_append]
    refine List.nodup_append.mpr ⟨B.nod, by simp, fun p hp q hq => ?_⟩
    obtain ⟨y, hy, rfl⟩ := List.mem_map.mp hp
    simp at hq
    rw [hq]
    exact new y hy
  · intro y hy
    rw [List.length_append, List.length_singleton]
    rcases List.mem_append.mp hy with e | e
    · have := B.len y e
      omega
    · rw [List.mem_singleton.mp e]
      show (x.wd ++ [(a : Int)]).length ≤ _
      rw [List.length_append, List.length_singleton]
      have := B.len x (B.here hx)
      omega
/-- on to the next place -/
theorem Bfs.next (k : Kin M N) {st : Pr} {L : List Nd} {pl : Nat} {a : Nat} (B : Bfs M N st L pl a) (ha : M.ls = a) : Bfs M N st L (pl + 1) 0 where
  fst := B.fst
  inc := B.inc
  run := B.run
  done := fun i b z hz o hb2 => by
    rcases o with o | ⟨_, o2⟩
    · by_cases h : i = pl
      · exact B.done i b z hz (.inr ⟨h, by omega⟩) hb2
      · exact B.done i b z hz (.inl (by omega)) hb2
    · exact absurd o2 (Nat.not_lt_zero _)
  good := fun i z hz o => by
    rcases o with o | ⟨_, o2⟩
    · by_cases h : i = pl
      · exact B.good i z hz (.inr ⟨h, by have := k.gm.l1; omega⟩)
      · exact B.good i z hz (.inl (by omega))
    · exact absurd o2 (Nat.not_lt_zero _)
  gen := fun j z hz => by
    rcases B.gen j z hz with q | ⟨i2, b2, x2, q1, q2, q3, q4⟩
    · exact .inl q
    · exact .inr ⟨i2, b2, x2, q1, .inl (by rcases q2 with q2 | q2 <;> omega), q3, q4⟩
  nod := B.nod
  len := B.len
end
/-! ### few pairs -/
theorem nodup_few : ∀ (m : Nat) (l : List Nat), l.Nodup → (∀ x ∈ l, x < m) → l.length ≤ m
  | 0, [], _, _ => Nat.le_refl _
  | 0, x :: _, _, h => absurd (h x List.mem_cons_self) (Nat.not_lt_zero _)
  | m + 1, l, hn, h => by
    have ih := nodup_few m (l.erase m) (hn.erase m) fun x hx => by
      have h1 := (List.Nodup.mem_erase_iff hn).mp hx
      have h2 := h x h1.2
      have h3 := h1.1
      omega
    have e := List.length_erase (a := m) (l := l)
    split at e <;> omega
theorem Bfs.few {M N : Mach} {st : Pr} {L : List Nd} {pl a : Nat} (k : Kin M N) (B : Bfs M N st L pl a) : L.length ≤ 900 := by
  have h := nodup_few 900 (L.map fun x => x.pr.1.toNat * 30 + x.pr.2.toNat) ?_ ?_
  · rw [List.length_map] at h
    exact h
  · have e : L.map (fun x => x.pr.1.toNat * 30 + x.pr.2.toNat) = (L.map (·.pr)).map fun p : Pr => p.1.toNat * 30 + p.2.toNat := by
      rw [List.map_map]
      rfl
    rw [e]
    refine List.Pairwise.map _ ?_ (List.Pairwise.and_mem.mp B.nod)
    rintro p q ⟨hp, hq, n⟩ z
    obtain ⟨x, hx, rfl⟩ := List.mem_map.mp hp
    obtain ⟨y, hy, rfl⟩ := List.mem_map.mp hq
    have i1 := (B.run x hx).2.2
    have i2 := (B.run y hy).2.2
    have := k.gn.s30
    have a1 := i1.1.1
    have a2 := i1.2.1
    have a3 := i1.2.2
    have b1 := i2.1.1
    have b2 := i2.2.1
    have b3 := i2.2.2
    exact n (Prod.ext (by omega) (by omega))
  · intro v hv
    obtain ⟨x, hx, rfl⟩ := List.mem_map.mp hv
    have i1 := (B.run x hx).2.2
    have := k.gn.s30
    have := k.gm.s30
    have a1 := i1.1.1
    have a4 := i1.1.2
    have a2 := i1.2.1
    have a3 := i1.2.2
    show x.pr.1.toNat * 30 + x.pr.2.toNat < 900
    omega
end Mz
namespace Mz
theorem part_or {M N : Mach} {p : Pr} : (∃ u, Part M N p u) ∨ NoPart M N p := by
  by_cases h : NoPart M N p
  · exact .inr h
  · refine .inl ?_
    have key : ∀ n : Nat, (∃ v, Lt M.ls v ∧ Bad M N (runP M N p v) ∧ code v ≤ n) → ∃ u, Part M N p u := by
      intro n
      induction n with
      | zero =>
        rintro ⟨v, h1, h2, h3⟩
        exact ⟨v, h1, h2, fun u _ _ => by omega⟩
      | succ n ih =>
        rintro ⟨v, h1, h2, h3⟩
        by_cases c : ∃ u, Lt M.ls u ∧ Bad M N (runP M N p u) ∧ code u ≤ n
        · exact ih c
        · exact ⟨v, h1, h2, fun u a b => Nat.le_of_not_lt fun z => c ⟨u, a, b, by omega⟩⟩
    have : ∃ v, Lt M.ls v ∧ Bad M N (runP M N p v) := Classical.byContradiction fun z => h fun v a b => z ⟨v, a, b⟩
    obtain ⟨v, a, b⟩ := this
    exact key _ ⟨v, a, b, Nat.le_refl _⟩
end Mz

set_option Elab.async false
set_option linter.all false
set_option maxRecDepth 100000
set_option maxHeartbeats 4000000
/-! a walk over a tuple while an error is handled -/
namespace Mz
open PySem PySem.Spec PyProof.Rows L2 L2H HotX
theorem next_tuple_end_hot {prog : Program} {w : World} {A : Around} {E : Value → Shared → Prop} {s : Shared} {it t x1 : Addr} {i : Nat} {items : Array Value} {Q : Option Value → Shared → Prop} (hot : HotAt A x1 s.heap)
    (hit : s.heap.IsTupleIter it t i) (ht : s.heap.IsTuple t items) (hx : items[i]? = none) (hQ : ∀ h', Heap.ExtBut it s.heap h' → Q none { s with heap := h' }) : wpAny (model prog w) A (pyNext (.ref it)) Q E s := by
  obtain ⟨o, ho, hc, hd⟩ := id hit
  obtain ⟨ol, hol, _, nl, hdl⟩ := ht
  obtain ⟨hh, o1, vs1, h1, d1, c1⟩ := hot
  have tT : s.TypeIs (.ref it) "tuple_iterator" := hit.typeIs
  unfold pyNext
  refine wpAny_bind (wpAny_attempt (wpAny_callSpecial?_slot (name := Str.ofString "__next__") tT F.slot_tuple_iterator_next (wpAny_call_entry F.slot_tuple_iterator_next tT F.entry_tuple_iterator_next ?_ (F.args_tuple_iterator_next_1 _))))
  show wpAny _ _ (field (.ref it) 0 >>= fun v => _) _ _ s
  refine wpAny_bind (wpAny_field ho hd (x := .ref t) rfl ?_)
  show wpAny _ _ (ite ((Value.ref t == Value.none) = true) _ _) _ _ s
  rw [if_neg (fun z : (Value.ref t == Value.none) = true => Bool.false_ne_true z)]
  show wpAny _ _ (field (.ref it) 1 >>= fun v => _) _ _ s
  refine wpAny_bind (wpAny_field ho hd (x := .int i 0) rfl ?_)
  show wpAny _ _ (seqItems? (.ref t) >>= fun v => _) _ _ s
  refine wpAny_bind (wpAny_seqItems hol hdl ?_)
  simp only [Int.toNat_natCast, hx]
  have apart : x1 ≠ it := fun z => by
    rw [z, ho] at h1
    cases h1
    rw [hd] at d1
    injection d1 with d1
    rw [← d1] at c1
    cases c1
  refine wpAny_bind (wpAny_rule (wpAny_bind (wpAny_setField ho hd (by simp) ?_)))
  show wpAny _ _ ((newExc (.type "StopIteration") []) >>= fun v => _) _ _ _
  refine wpAny_bind ?_
  simp only [newExc, newTuple]
  refine wpAny_bind (wpAny_newObj_type ?_ (by size_fits))
  refine wpAny_bind (m := firstArgMember _ _) (wpAny_of_eq (a := Value.none) (by first | rfl | (simp only [firstArgMember] <;> rfl)) ?_)
  refine wpAny_newObj_type ?_ (by size_fits)
  have h1b : (s.heap.update it (Obj.mapFields (·.setIfInBounds 0 Value.none))).get? x1 = some o1 := by
    rw [Heap.get?_update_other _ _ (fun z => apart z.symm)]
    exact h1
  refine raiseNew_hot ⟨hh, o1, vs1, Heap.get?_push_of_some _ (Heap.get?_push_of_some _ h1b), d1, c1⟩ (Nat.ne_of_lt (Heap.lt_size (Heap.get?_push_of_some _ h1b)))
    (Heap.get?_push_size _ rfl) rfl (by first | (simp; done) | (simp; omega) | (simp only [Array.size_append]; simp; omega)) ?_
  refine wpAny_bind (wpAny_isInstance (T := "StopIteration") (b := true) ⟨_, (Heap.get?_update_self _ (Heap.get?_push_size _ rfl) rfl), rfl⟩ isSubtype_stop ?_)
  refine wpAny_pure (hQ _ fun b u nb e => ?_)
  have e1 : (s.heap.update it (Obj.mapFields (·.setIfInBounds 0 Value.none))).get? b = some u := by
    rw [Heap.get?_update_other _ _ (fun z => nb z.symm)]
    exact e
  rw [Heap.get?_update_other _ _ (fun z => Nat.lt_irrefl _ (show _ < _ by have := Heap.lt_size (Heap.get?_push_of_some { cls := Value.type "tuple", data := Data.seq #[] } e1); rw [← z] at this; exact this))]
  exact Heap.get?_push_of_some _ (Heap.get?_push_of_some _ e1)
theorem turn_tupleH {P : Program} {w : World} {K : PySem.W.Frag} {tg : Expr} (a it : Addr) : TurnH P w K tg (Itt K a) [it] it (fun i h => h.IsTupleIter it a i) where
  mem := List.mem_singleton.mpr rfl
  obj := fun i h ⟨o, e, c, d⟩ b hb => by
    rw [List.mem_singleton.mp hb]
    exact ⟨o, e, fun v z => by rw [d] at z; cases z⟩
  keep := fun i h h' st k => st.at fun o e => k it (List.mem_singleton.mpr rfl) o e
  item := by
    rintro X rfl rfl rfl hc i pins s σ H E I hf st ⟨xs, x, hq, hx⟩
    obtain ⟨its, rv, p, _⟩ := I.tuple hq
    obtain ⟨u, hu, ru⟩ := rv.get hx
    obtain ⟨f0, f1, f2, f3, f4, f5⟩ := hf it (List.mem_singleton.mpr rfl)
    have tp : s.heap.IsTuple a its.toArray := p
    refine wpAny_pyNext_tuple_item st tp (x := u) (by simpa using hu) fun h' st' sb => ?_
    have J : Inv X pins σ H { s with heap := h' } := I.turned (t' := s.toks) (fun b o hb e => (sb.2 b hb).trans e) f0 f1 f3 f4 f5
    obtain ⟨o, e, c, d⟩ := id st'
    refine ⟨u, rfl, go_of (s := { s with heap := h' }) e c d (by decide) ⟨x, H, J, ru, ⟨rfl, fun ys hy => ?_⟩, st', fun b hb => (hf b hb).1⟩⟩
    rw [I.tuple_inj hy hq]
    exact hx
  done := by
    rintro X rfl rfl rfl hc i pins s σ H E I hf st ⟨xs, hq, hx⟩
    obtain ⟨its, rv, p, _⟩ := I.tuple hq
    obtain ⟨f0, f1, f2, f3, f4, f5⟩ := hf it (List.mem_singleton.mpr rfl)
    have hl := rv.length
    obtain ⟨x1, hot⟩ := hc.at I
    have tp : s.heap.IsTuple a its.toArray := p
    exact next_tuple_end_hot hot st tp (by simp; omega) fun h' eb => ⟨rfl, I.turned (t' := s.toks) (fun b o hb e => eb b o hb e) f0 f1 f3 f4 f5⟩
  self := fun _ _ _ _ _ st h => wpAny_pyIter_tupleiter st h
theorem pi_tupH {X : Cx} {tg l : Expr} {tl : TE} (hl : PE X l tl) : PIH X tg l (iTup X.K tl) := by
  refine ⟨fun pins s σ H R I h => thn (hl.run pins s σ H _ I h) fun v s1 ⟨x, H1, I1, r1, a, e, ⟨xs, hq⟩, q⟩ => ?_⟩
  subst e
  cases r1
  obtain ⟨its, rv, p, _⟩ := I1.tuple hq
  have tp : s1.heap.IsTuple a its.toArray := p
  refine wpAny_pyIter_tuple tp ⟨s1.heap.objs.size, [s1.heap.objs.size], _, _, H1, rfl, I1.kept (t' := s1.toks) (fun b o e => Heap.get?_push_of_some _ e), turn_tupleH a _, ⟨_, Heap.get?_push_size _ rfl, rfl, rfl⟩, fun b hb => ?_, q⟩
  rw [List.mem_singleton.mp hb]
  exact I1.fpOk (Nat.le_refl _) (I1.hok.fresh (Nat.le_refl _))
end Mz

set_option Elab.async false
set_option linter.all false
set_option maxRecDepth 100000
set_option maxHeartbeats 4000000
/-! the order of words: (len(u), u) < (len(v), v) -/
namespace Mz
open PySem PySem.Spec PyProof.Rows L2
def rLtD (K : PySem.W.Frag) : R2 := fun x y H Q => ∃ d e, Dp K H x d ∧ Dp K H y e ∧ W.alike d e = true ∧ d ≠ .none ∧ min d.depth e.depth ≤ 64 ∧ Q (.bl (W.dataLt d e)) H
theorem op_ltD {X : Cx} (hu : X.A.units + 64 < cLine) : OpR X (compareOp .Lt) (rLtD X.K) := by
  rintro pins s σ H x y v u Q I rx ry ⟨d, e, hd, he, al, hn, dep, q⟩
  obtain ⟨as, r1⟩ := Dp.reads I d x v hd rx
  obtain ⟨bs, r2⟩ := Dp.reads I e y u he ry
  exact W.rcLt_alike d e X.A s v u as bs r1 r2 al hn (by omega) X.prog X.w _ _ ⟨.bl _, H, I, rfl, q⟩
def wordD (ns : List Int) : PyData := .tuple [.int ns.length, .list (ns.map PyData.int)]
theorem alike_ints : ∀ ns ms : List Int, W.alikeAll (ns.map PyData.int) (ms.map PyData.int) = true
  | [], _ => by simp [W.alikeAll]
  | _ :: _, [] => by simp [W.alikeAll]
  | n :: ns, m :: ms => by
    simp only [List.map_cons, W.alikeAll, W.alike, Bool.true_and]
    exact alike_ints ns ms
theorem alike_word (ns ms : List Int) : W.alike (wordD ns) (wordD ms) = true := by
  simp only [wordD, W.alike, W.alikeAll, alike_ints, Bool.and_true]
theorem dp_ints {K : PySem.W.Frag} {H : Hp} : ∀ ns : List Int, DpAll K H (ns.map V.int) (ns.map PyData.int)
  | [] => .nil
  | n :: ns => .cons (.int n) (dp_ints ns)
end Mz
namespace Mz
open PySem PySem.Spec PyProof.Rows L2
theorem depth_ints : ∀ ns : List Int, PyData.depthAll (ns.map PyData.int) ≤ 1
  | [] => by simp [PyData.depthAll]
  | n :: ns => by
    have := depth_ints ns
    simp [PyData.depthAll, PyData.depth]
    omega
theorem depth_word (ns ms : List Int) : min (wordD ns).depth (wordD ms).depth ≤ 64 := by
  have h := depth_ints ns
  have e : (wordD ns).depth ≤ 5 := by
    simp [wordD, PyData.depth, PyData.depthAll]
    omega
  omega
/-- u comes before v -/
def wordLt (u v : List Int) : Bool := if u.length = v.length then HT.lexLt u v else decide (u.length < v.length)
theorem lex_eq {x : Int ⊕ List Nat} {r t : List (Int ⊕ List Nat)} : PyProof.Rows.lexLt itemOrd (x :: r) (x :: t) = PyProof.Rows.lexLt itemOrd r t := PySem.W.lex_pre [x] r t
theorem lex_self (l : List (Int ⊕ List Nat)) : PyProof.Rows.lexLt itemOrd l l = false := by
  have := PySem.W.lex_pre l [] []
  rw [List.append_nil] at this
  rw [this]
  rfl
theorem lex_ints : ∀ (ns ms : List Int) (l : List (Int ⊕ List Nat)), ns.length = ms.length → PyProof.Rows.lexLt itemOrd (PySem.W.keyToksAll (ns.map PyData.int) ++ l) (PySem.W.keyToksAll (ms.map PyData.int) ++ l) = HT.lexLt ns ms
  | [], [], l, _ => by
    rw [lex_self]
    rfl
  | [], _ :: _, _, h => by simp at h
  | _ :: _, [], _, h => by simp at h
  | n :: ns, m :: ms, l, h => by
    have ih := lex_ints ns ms l (by simpa using h)
    rw [List.map_cons, List.map_cons, PySem.W.toks_all_cons, PySem.W.toks_all_cons]
    simp only [PySem.W.keyToks, List.cons_append, List.nil_append]
    rw [lex_eq, HT.lexLt_cons]
    by_cases e : n = m
    · subst e
      rw [lex_eq, ih, if_pos rfl]
    · rw [lex_diff (by simpa using e), if_neg e]
      rfl
theorem dataLt_word (ns ms : List Int) : PySem.W.dataLt (wordD ns) (wordD ms) = wordLt ns ms := by
  unfold PySem.W.dataLt wordD wordLt
  simp only [PySem.W.keyToks, PySem.W.keyToksAll, List.cons_append, List.nil_append]
  rw [lex_eq]
  by_cases e : ns.length = ms.length
  · rw [if_pos e, e, lex_eq, lex_eq]
    exact lex_ints ns ms _ e
  · rw [if_neg e, lex_diff (by simpa using fun z => e (by omega))]
    show decide _ = decide _
    rw [decide_eq_decide]
    omega
end Mz

set_option Elab.async false
set_option linter.all false
set_option maxRecDepth 100000
set_option maxHeartbeats 4000000
/-! errors whose context is None; defs with a table of code objects; what stays beside a table -/
namespace Mz
open PySem PySem.Spec PyProof.Rows L2 L2H
theorem takesN {X : Cx} : L2N.Takes X (fun _ _ _ _ => False) := fun _ _ ⟨_, _, _, _, _, _, _, _, _, _, _, _, _, _, _, _, z⟩ => z.elim
theorem passN {X : Cx} : Passes (L2N.CX X.prog X.w) X E0 := fun _ _ _ _ _ _ _ ⟨_, _, _, _, _, _, _, _, _, _, _, _, z⟩ => z.elim
section
variable {X : Cx} {C : Addr} {bmB : List Value} {B newId initId : String}
/-- X(e, ..) for an own error class -/
theorem pmk_any {x : Str} {p pos : Pos} {e : Expr} {es : List Expr} {t : TA} (F : ExcBaseFacts B newId initId bmB) (q : PySem.W.excIn X.K C bmB newId = true) (gC : X.mg x = some (.ref C))
    (kC : PySem.W.keepIn X.K (.ref C) = true) (r : Raises X (.ref C)) (hg : Gl X x) (ha : PA X (e :: es) t) (hdb : (x == ("__debug__" : Str)) = false := by decide)
    (he : starEach (e :: es) X.env = (false, eval e X.env) :: starEach es X.env := by rfl) (hpl : (backTo pos (starEach es X.env)).any (·.1) = false := by rfl) :
    L2N.PMk X (.Call (.Name x p) (e :: es) [] pos) (fun σ H Q => t σ H fun vs H1 => vs.length ≤ sizeLine ∧ Q (.ref C) none H1) := by
  intro pins s σ H Q I h
  refine wpAny_Call_Name_kw (ld_glob I hg gC (PySem.W.callWith_K (h₀ := X.base) I.ok.mod.kin kC (thn (ha.run pos pins s σ H _ I h) fun us s1 ⟨vs, H1, I1, r1, hz, q1⟩ => ⟨I1.kIn, ?_⟩) he hpl) hdb)
  show wpAny _ _ (call (.ref C) us) _ _ _
  obtain ⟨bm, N, nm, qn, bs, hdct, sn, sub, ab, col, dd, k0, k1, k2, k3, k5, mN, hC, hN, hni, T⟩ := exc_obj I1.kIn q
  exact wpAny_call_exc_subT F T hC hN hni (fun h' e hm => L2N.mk_of I1 hm r q1 (I1.hok.gone hm.new)) (by rw [← r1.length]; exact hz)
end
section
variable {P : Program} {w : World} {K : PySem.W.Frag} {mg : Str → Option Value} {base : Heap}
/-- a def that may raise -/
theorem okN {x qual : Str} {st : Stmt} {f : Addr} {fd : FuncData} {N ps : List Str} {k : Nat} {sp : Sp} (F : Fun K x qual st f fd) (S : FnScope N ps (defScope st)) (len : ∀ vs H Q E, sp vs H Q E → vs.length = ps.length)
    (hbody : ∀ (cdv : Value) (A : Around) (outer : List Env) (s : Shared) (H : Hp) (vs : List V) (Q : VK) (E : XK), Room k (A.deeper (envOfC qual (defScope st) s.heap.objs.size f cdv)) → sp vs H Q E →
      ∃ t, PSs (cxOf (L2N.CX P w) P w K mg base N qual (defScope st) f cdv A outer s H E) (defBody st) t ∧ t { nx := fun _ H' => Q .non H', rt := Q } (start N vs) H) : FnOk P w K mg base (L2N.CX P w) (k + 1) f fd ps sp := by
  obtain ⟨oc, od, kV, doc, pm, an, cdv, ct, osl, rfl, lk, hcd⟩ := F.ex
  exact fn_of lk hcd S len fun A outer s H vs Q E hr hsp => hbody cdv A outer s H vs Q E hr hsp
/-- a def whose code object is known -/
theorem okC {x qual : Str} {st : Stmt} {f : Addr} {fd : FuncData} {N ps : List Str} {k : Nat} {sp : Sp} (F : Fun K x qual st f fd) (S : FnScope N ps (defScope st)) (len : ∀ vs H Q E, sp vs H Q E → vs.length = ps.length)
    (hbody : ∀ (A : Around) (outer : List Env) (s : Shared) (H : Hp) (vs : List V) (Q : VK) (E : XK), Room k (A.deeper (envOfC qual (defScope st) s.heap.objs.size f fd.code)) → sp vs H Q E →
      ∃ t, PSs (cxOf CX0 P w K mg base N qual (defScope st) f fd.code A outer s H E).nox (defBody st) t ∧ t { nx := fun _ H' => Q .non H', rt := Q } (start N vs) H) : FnOk P w K mg base CX0 (k + 1) f fd ps sp := by
  obtain ⟨oc, od, kV, doc, pm, an, cdv, ct, osl, rfl, lk, hcd⟩ := F.ex
  refine fn_of lk hcd S len fun A outer s H vs Q E hr hsp => ?_
  obtain ⟨t, h, q⟩ := hbody A outer s H vs Q E hr hsp
  exact ⟨t, h.nox, q⟩
/-- a def called while an error is handled -/
theorem okH {x qual : Str} {st : Stmt} {f : Addr} {fd : FuncData} {N ps : List Str} {k : Nat} {sp : Sp} (F : Fun K x qual st f fd) (S : FnScope N ps (defScope st)) (len : ∀ vs H Q E, sp vs H Q E → vs.length = ps.length)
    (hbody : ∀ (cdv : Value) (A : Around) (outer : List Env) (s : Shared) (H : Hp) (vs : List V) (Q : VK) (E : XK) (p : Addr × Obj), Hot1 A p → RoomH k (A.deeper (envOfC qual (defScope st) s.heap.objs.size f cdv)) → sp vs H Q E →
      ∃ t, PSs (cxH CX0 P w K mg base N qual (defScope st) f cdv A outer s H E p) (defBody st) t ∧ t { nx := fun _ H' => Q .non H', rt := Q } (start N vs) H) : FnH P w K mg base CX0 (k + 1) f fd ps sp := by
  obtain ⟨oc, od, kV, doc, pm, an, cdv, ct, osl, rfl, lk, hcd⟩ := F.ex
  exact fn_ofH lk hcd S len fun A outer s H vs Q E p hot hr hsp => hbody cdv A outer s H vs Q E p hot hr hsp
end
theorem hot_suite {X : Cx} {a : Addr} {oe : Obj} {pn : List (Addr × Obj)} {cls : Value} {d : Option Addr} (hz : L2N.Zn cls d oe) (hf : ∃ vs, oe.data = .fields vs) : HotC (X.suite a ((a, oe) :: pn)) := by
  obtain ⟨vs, e⟩ := hf
  exact ⟨(a, oe), ⟨rfl, vs, e, hz.2.2 vs e⟩, List.mem_cons_self⟩
/-! ### what stays as it was, but for the table at P -/
structure Kp (P : Addr) (H H' : Hp) : Prop where
  tab : GxR.TabG H' P
  keep : ∀ b o, b ≠ P → H b = some o → H' b = some o
theorem tab_ne {H : Hp} {P b : Addr} {o : HO} (t : GxR.TabG H P) (e : H b = some o) (h : ∀ ps, o ≠ .tbl ps) : b ≠ P := fun z => by
  obtain ⟨ps, hP, _⟩ := t
  rw [z, hP] at e
  exact h ps (Option.some.inj e).symm
theorem Kp.of {P : Addr} {H H' : Hp} (t : GxR.TabG H P) (s : Same H H') : Kp P H H' := by
  obtain ⟨ps, hP, ht⟩ := t
  exact ⟨⟨ps, s _ _ hP, ht⟩, fun b o _ e => s b o e⟩
theorem Kp.refl {P : Addr} {H : Hp} (t : GxR.TabG H P) : Kp P H H := ⟨t, fun _ _ _ e => e⟩
theorem Kp.trans {P : Addr} {H H1 H2 : Hp} (a : Kp P H H1) (b : Kp P H1 H2) : Kp P H H2 := ⟨b.tab, fun c o n e => b.keep c o n (a.keep c o n e)⟩
theorem Kp.andS {P : Addr} {H H1 H2 : Hp} (a : Kp P H H1) (b : Same H1 H2) : Kp P H H2 := a.trans (.of a.tab b)
theorem Kp.ofTabbed {P : Addr} {H H' : Hp} (t : GxR.Tabbed P H H') : Kp P H H' := ⟨t.1, fun b o n e => by rw [t.2 b n]; exact e⟩
theorem Kp.free {P : Addr} {H H' : Hp} (k : Kp P H H') {b : Addr} (e : H' b = none) : H b = none := by
  cases q : H b with
  | none => rfl
  | some o =>
    have n : b ≠ P := fun z => by
      obtain ⟨ps, hP, _⟩ := k.tab
      rw [z, hP] at e
      cases e
    rw [k.keep b o n q] at e
    cases e
theorem Kp.seq {P : Addr} {H H' : Hp} {K : PySem.W.Frag} {a : Addr} {xs : List V} (t : GxR.TabG H P) (k : Kp P H H') (h : SqL K H a xs) : SqL K H' a xs := by
  rcases h with (h | ⟨o, h⟩) | h
  · exact .inl (.inl (k.keep _ _ (tab_ne t h (fun ps z => by cases z)) h))
  · exact .inl (.inr ⟨o, k.keep _ _ (tab_ne t h (fun ps z => by cases z)) h⟩)
  · exact .inr h
theorem Kp.tup {P : Addr} {H H' : Hp} {a : Addr} {xs : List V} (t : GxR.TabG H P) (k : Kp P H H') (h : H a = some (.tup xs)) : H' a = some (.tup xs) := k.keep _ _ (tab_ne t h (fun ps z => by cases z)) h
theorem Kp.lst {P : Addr} {H H' : Hp} {a : Addr} {xs : List V} (t : GxR.TabG H P) (k : Kp P H H') (h : H a = some (.lst xs)) : H' a = some (.lst xs) := k.keep _ _ (tab_ne t h (fun ps z => by cases z)) h
theorem Kp.mat {P : Addr} {H H' : Hp} {m mv ou : Addr} {M : Mach} {rs : List Addr} (t : GxR.TabG H P) (k : Kp P H H') (h : MAt H m M mv ou rs) : MAt H' m M mv ou rs :=
  ⟨k.tup t h.top, k.tup t h.mv, k.tup t h.ou, h.len, fun i r w a b => k.tup t (h.row i r w a b)⟩
theorem Kp.ma {P : Addr} {H H' : Hp} {m : Addr} {M : Mach} (t : GxR.TabG H P) (k : Kp P H H') (h : MA H m M) : MA H' m M := by
  obtain ⟨mv, ou, rs, h⟩ := h
  exact ⟨mv, ou, rs, k.mat t h⟩
/-- a list or a tuple of ints -/
def Ints (K : PySem.W.Frag) (H : Hp) (a : Addr) (ns : List Int) : Prop := SqL K H a (ns.map V.int) ∨ SqT K H a (ns.map V.int)
def belowB (ns : List Int) (L : Int) : Bool := ns.all fun n => decide (0 ≤ n) && decide (n < L)
theorem below_iff {ns : List Int} {L : Int} : belowB ns L = true ↔ Lt L ns := by
  unfold belowB Lt
  rw [List.all_eq_true]
  constructor
  · intro h z hz
    have := h z hz
    simpa using this
  · intro h z hz
    simpa using h z hz
end Mz
namespace Mz
open PySem PySem.Spec PyProof.Rows L2
/-! ### f'..': its length, part by part -/
theorem js_str {z : Str} {ts : List TE} {acc : Str} {σ : L2.St} {H : Hp} {Q : Str → Hp → Prop} {n : Nat} (ha : acc.length ≤ n) (hz : z.length ≤ 100) (hn : n ≤ 1000000) (k : (acc ++ z).length ≤ n + 100 → tJs ts (acc ++ z) σ H Q) :
    tJs (tC (.str z) :: ts) acc σ H Q := by
  have e : (acc ++ z).length ≤ n + 100 := by
    rw [PySem.Str.length_append]
    omega
  refine ⟨z, rfl, ?_, k e⟩
  rw [sizeLine_eq]
  omega
theorem js_int {te : TE} {ts : List TE} {acc : Str} {σ : L2.St} {H : Hp} {Q : Str → Hp → Prop} {n : Nat} (ha : acc.length ≤ n) (hn : n ≤ 1000000)
    (k : te σ H fun x H1 => ∃ i : Int, x = .int i ∧ i.natAbs.log2 < 1920 ∧ ((acc ++ Str.ofString (toString i)).length ≤ n + 1921 → tJs ts (acc ++ Str.ofString (toString i)) σ H1 Q)) (mono : ∀ {Q1 Q2 : VK}, (∀ x H1, Q1 x H1 → Q2 x H1) → te σ H Q1 → te σ H Q2) :
    tJs (tFmt te :: ts) acc σ H Q := by
  refine mono (fun x H1 ⟨i, e, hi, q⟩ => ?_) k
  have l := int_text_len_1921 hi
  have e2 : (acc ++ Str.ofString (toString i)).length ≤ n + 1921 := by
    rw [PySem.Str.length_append]
    omega
  refine .inr ⟨i, e, hi, _, rfl, ?_, q e2⟩
  rw [sizeLine_eq]
  show (acc ++ Str.ofString (toString i)).length ≤ _
  omega
theorem log_small {i : Int} (h : i.natAbs < 2 ^ 64) : i.natAbs.log2 < 1920 := by
  by_cases h0 : i.natAbs = 0
  · rw [h0]
    decide
  · have := (Nat.log2_lt h0).mpr h
    omega
end Mz

set_option Elab.async false
set_option linter.all false
set_option maxRecDepth 100000
set_option maxHeartbeats 4000000
/-! isinstance: the error in hand against a builtin class; small facts of builtin classes -/
namespace Mz
open PySem PySem.Spec PyProof.Rows L2
def rIsXV (K : PySem.W.Frag) (a : Addr) (cls : Value) (d : Option Addr) : List V → Hp → VK → Prop := fun xs H Q =>
  ∃ (D : Addr) (c : V) (u : Value) (b : Bool), cls = .ref D ∧ d = none ∧ ExcC K D ∧ xs = [.ref a, c] ∧ ClsV c u ∧ PySem.W.kitOne K (.ref D) u = some b ∧ Q (.bl b) H
theorem call_isXV {X : Cx} {a : Addr} {cls : Value} {d : Option Addr} {oe : Obj} {pn : List (Addr × Obj)} (hz : Zc cls d oe) (hf : ∃ vs, oe.data = .fields vs) :
    CallR (X.suite a ((a, oe) :: pn)) (.builtin "isinstance") (rIsXV X.K a cls d) := by
  rintro pins s σ H xs us Q I r ⟨D, c, u, b, rfl, rfl, ec, rfl, k, hk, q⟩
  exact call_isE ec hz hf pins s σ H _ us Q I r ⟨c, u, b, rfl, fun w r => k.eq r, hk, q⟩
theorem kit_ty {K : PySem.W.Frag} {D : Addr} {n : String} {b : Bool} (h : PySem.W.subIn K (.ref D) (.type n) = some b) (hm : PySem.W.kitMeta n = true := by decide +kernel) : PySem.W.kitOne K (.ref D) (.type n) = some b := by
  unfold PySem.W.kitOne
  rw [if_neg (by exact fun z => nomatch (beq_iff_eq.mp z : Value.ref D = Value.type n))]
  show (if PySem.W.kitMeta n = true then PySem.W.subIn K (.ref D) (.type n) else none) = some b
  rw [if_pos hm]
  exact h
/-- isinstance of an int, a bool, a list -/
theorem kit_ints {K : PySem.W.Frag} : PySem.W.kitOne K (.type "int") (.type "int") = some true := if_pos (beq_self_eq_true _)
theorem kit_bools {K : PySem.W.Frag} : PySem.W.kitOne K (.type "bool") (.type "bool") = some true := if_pos (beq_self_eq_true _)
theorem kit_lists {K : PySem.W.Frag} : PySem.W.kitOne K (.type "list") (.type "list") = some true := if_pos (beq_self_eq_true _)
theorem kit_int_bool {K : PySem.W.Frag} : PySem.W.kitOne K (.type "int") (.type "bool") = some false := by
  unfold PySem.W.kitOne
  rw [if_neg (by decide)]
  show (if PySem.W.kitMeta "bool" = true then PySem.W.subIn K (.type "int") (.type "bool") else none) = some false
  rw [if_pos (by decide +kernel)]
  show (fastBuiltinMro "int").map (·.contains (Value.type "bool")) = some false
  decide +kernel
end Mz

set_option Elab.async false
set_option linter.all false
set_option maxRecDepth 100000
set_option maxHeartbeats 4000000
/-! a machine under change: a list of lists and a list, all new -/
namespace Mz
open PySem PySem.Spec PyProof.Rows L2
theorem ps_weak {X : Cx} {st : Stmt} {t t' : TS} (h : PS X st t) (k : ∀ D σ H, t' D σ H → t D σ H) : PS X st t' := ⟨fun pins s σ H D I q => h.run pins s σ H D I (k D σ H q)⟩
theorem blkOk_at {N N' : List Str} {sc sc' scope : Scope} {own : List (Str × Nat)} (h : BlkOk N sc scope own) (h1 : N = N') (h2 : sc = sc') : BlkOk N' sc' scope own := by
  subst h1 h2
  exact h
def rLof (K : PySem.W.Frag) : List V → Hp → VK → Prop := fun xs H Q => ∃ p ys, xs = [.ref p] ∧ (SqL K H p ys ∨ SqT K H p ys) ∧ ∀ l, H l = none → Q (.ref l) (upd H l (.lst ys))
theorem call_lof {X : Cx} : CallR X (.type "list") (rLof X.K) := call_list_of
def rTof (K : PySem.W.Frag) : List V → Hp → VK → Prop := fun xs H Q => ∃ p ys, xs = [.ref p] ∧ ((SqL K H p ys ∧ ∀ l, H l = none → Q (.ref l) (upd H l (.tup ys))) ∨ (SqT K H p ys ∧ Q (.ref p) H))
theorem call_tof {X : Cx} : CallR X (.type "tuple") (rTof X.K) := call_tuple_of
structure Mut (H H' : Hp) (mvl oul : Addr) (rs : List Addr) (os : List Int) : Prop where
  same : Same H H'
  fm : H mvl = none
  fo : H oul = none
  ne : mvl ≠ oul
  mv : H' mvl = some (.lst (rs.map V.ref))
  ou : H' oul = some (.lst (os.map V.int))
  row : ∀ r ∈ rs, H r = none ∧ r ≠ mvl ∧ r ≠ oul ∧ ∃ w : List Int, w.length ≤ 5 ∧ H' r = some (.lst (w.map V.int))
  rl : rs.length ≤ 31
  ol : os.length ≤ 31
section
variable {H H' H2 : Hp} {mvl oul : Addr} {rs : List Addr} {os : List Int}
theorem Mut.on (m : Mut H H' mvl oul rs os) (s : Same H' H2) : Mut H H2 mvl oul rs os :=
  ⟨m.same.trans s, m.fm, m.fo, m.ne, s _ _ m.mv, s _ _ m.ou, fun r hr => by
    obtain ⟨a, b, c, w, lw, e⟩ := m.row r hr
    exact ⟨a, b, c, w, lw, s _ _ e⟩, m.rl, m.ol⟩
theorem Mut.new (m : Mut H H' mvl oul rs os) {p : Addr} (hp : H' p = none) (o : HO) : Mut H (upd H' p o) mvl oul rs os := m.on (same_upd (Same.refl _) hp)
/-- a row's content -/
theorem Mut.setRow (m : Mut H H' mvl oul rs os) {r : Addr} (hr : r ∈ rs) {w : List Int} (lw : w.length ≤ 5) : Mut H (upd H' r (.lst (w.map V.int))) mvl oul rs os := by
  obtain ⟨a, b, c, _, _, _⟩ := m.row r hr
  refine ⟨same_set m.same a, m.fm, m.fo, m.ne, by rw [upd_ne b.symm]; exact m.mv, by rw [upd_ne c.symm]; exact m.ou, fun x hx => ?_, m.rl, m.ol⟩
  obtain ⟨a2, b2, c2, w2, l2, e2⟩ := m.row x hx
  refine ⟨a2, b2, c2, ?_⟩
  by_cases z : x = r
  · subst z
    exact ⟨w, lw, upd_same⟩
  · exact ⟨w2, l2, by rw [upd_ne z]; exact e2⟩
theorem Mut.setOut (m : Mut H H' mvl oul rs os) {os2 : List Int} (l : os2.length ≤ 31) : Mut H (upd H' oul (.lst (os2.map V.int))) mvl oul rs os2 := by
  refine ⟨same_set m.same m.fo, m.fm, m.fo, m.ne, by rw [upd_ne m.ne]; exact m.mv, upd_same, fun x hx => ?_, m.rl, l⟩
  obtain ⟨a2, b2, c2, w2, l2, e2⟩ := m.row x hx
  exact ⟨a2, b2, c2, w2, l2, by rw [upd_ne c2]; exact e2⟩
/-- the list of rows is another one -/
theorem Mut.setMv (m : Mut H H' mvl oul rs os) {rs2 : List Addr} (l : rs2.length ≤ 31) (hrs : ∀ r ∈ rs2, r ∈ rs ∨ (H r = none ∧ r ≠ mvl ∧ r ≠ oul ∧ ∃ w : List Int, w.length ≤ 5 ∧ H' r = some (.lst (w.map V.int)))) :
    Mut H (upd H' mvl (.lst (rs2.map V.ref))) mvl oul rs2 os := by
  refine ⟨same_set m.same m.fm, m.fm, m.fo, m.ne, upd_same, by rw [upd_ne m.ne.symm]; exact m.ou, fun x hx => ?_, l, m.ol⟩
  obtain ⟨a2, b2, c2, w2, l2, e2⟩ := (hrs x hx).elim (m.row x) id
  exact ⟨a2, b2, c2, w2, l2, by rw [upd_ne b2]; exact e2⟩
theorem ne_some {a b : Addr} {o : HO} (h : H' a = none) (e : H' b = some o) : b ≠ a := fun z => by
  rw [z, h] at e
  cases e
/-- a new list of outputs -/
theorem Mut.newOut (m : Mut H H' mvl oul rs os) {p : Addr} (hp : H' p = none) {os2 : List Int} (l : os2.length ≤ 31) : Mut H (upd H' p (.lst (os2.map V.int))) mvl p rs os2 := by
  have k := m.new hp (.lst (os2.map V.int))
  refine ⟨k.same, m.fm, m.same.free hp, ne_some hp m.mv, k.mv, upd_same, fun x hx => ?_, m.rl, l⟩
  obtain ⟨a2, b2, c2, w2, l2, e2⟩ := k.row x hx
  obtain ⟨_, _, _, w3, _, e3⟩ := m.row x hx
  exact ⟨a2, b2, ne_some hp e3, w2, l2, e2⟩
/-- a new list of rows -/
theorem Mut.newMv (m : Mut H H' mvl oul rs os) {p : Addr} (hp : H' p = none) {rs2 : List Addr} (l : rs2.length ≤ 31) (hrs : ∀ r ∈ rs2, r ∈ rs) : Mut H (upd H' p (.lst (rs2.map V.ref))) p oul rs2 os := by
  have k := m.new hp (.lst (rs2.map V.ref))
  refine ⟨k.same, m.same.free hp, m.fo, (ne_some hp m.ou).symm, upd_same, k.ou, fun x hx => ?_, l, m.ol⟩
  obtain ⟨a2, b2, c2, w2, l2, e2⟩ := k.row x (hrs x hx)
  obtain ⟨_, _, _, w3, _, e3⟩ := m.row x (hrs x hx)
  exact ⟨a2, ne_some hp e3, c2, w2, l2, e2⟩
end
end Mz

set_option Elab.async false
set_option linter.all false
set_option maxRecDepth 100000
set_option maxHeartbeats 4000000
/-! == and != of lists of ints -/
namespace Mz
open PySem PySem.Spec PyProof.Rows L2
theorem eqv_ints : ∀ ns ms : List Int, PyData.eqvAll (ns.map PyData.int) (ms.map PyData.int) = decide (ns = ms)
  | [], [] => by simp [PyData.eqvAll]
  | [], _ :: _ => by simp [PyData.eqvAll]
  | _ :: _, [] => by simp [PyData.eqvAll]
  | n :: ns, m :: ms => by
    rw [List.map_cons, List.map_cons, PyData.eqvAll, eqv_ints ns ms, PyData.eqv]
    by_cases h : n = m
    · subst h
      by_cases h2 : ns = ms <;> simp [h2]
    · simp [h]
theorem eqv_lists (ns ms : List Int) : PyData.eqv (.list (ns.map PyData.int)) (.list (ms.map PyData.int)) = decide (ns = ms) := by
  rw [PyData.eqv]
  exact eqv_ints ns ms
section
variable {K : PySem.W.Frag} {H : Hp} {a b : Addr} {ns ms : List Int} {Q : VK}
theorem eq_lists (h1 : SqL K H a (ns.map V.int)) (h2 : SqL K H b (ms.map V.int)) (q : Q (.bl (decide (ns = ms))) H) : rEqD K (.ref a) (.ref b) H Q :=
  ⟨_, _, .lst h1 (dp_ints ns), .lst h2 (dp_ints ms), PySem.W.shaped_ints ns, PySem.W.shaped_ints ms, by rw [eqv_lists]; exact q⟩
theorem ne_lists (h1 : SqL K H a (ns.map V.int)) (h2 : SqL K H b (ms.map V.int)) (q : Q (.bl (!decide (ns = ms))) H) : rNeD K (.ref a) (.ref b) H Q :=
  ⟨_, _, .lst h1 (dp_ints ns), .lst h2 (dp_ints ms), PySem.W.shaped_ints ns, PySem.W.shaped_ints ms, by rw [eqv_lists]; exact q⟩
end
end Mz

set_option Elab.async false
set_option linter.all false
set_option maxRecDepth 100000
set_option maxHeartbeats 4000000
/-! {k: v}, k a tuple -/
namespace Mz
open PySem PySem.Spec PyProof.Rows L2
def tDisp1T (tk tv : TE) : TE := fun σ H Q => ∀ p, H p = none → tk σ (upd H p (.dT [])) fun x H1 => tv σ H1 fun y H2 => ∃ (b : Addr) (k : List L2.Key), x = .ref b ∧ H2 b = some (.tup (k.map kV)) ∧ H2 p = some (.dT []) ∧ Q (.ref p) (upd H2 p (.dT [(k, y)]))
theorem pe_disp1T {X : Cx} {ke ve : Expr} {pos : Pos} {tk tv : TE} (hu : X.A.units + 1 < cLine) (hk : PE X ke tk) (hv : PE X ve tv) : PE X (.Dict [some ke] [ve] pos) (tDisp1T tk tv) := by
  refine ⟨fun pins s σ H Q I q => ?_⟩
  have hn := I.hok.fresh (Nat.le_refl s.heap.objs.size)
  have I1 := I.laid (a := s.heap.objs.size) (o := .dT []) (h' := s.heap.push { cls := .type "dict", data := .dict #[] }) (t' := s.toks) (fun _ _ q => Heap.get?_push_of_some _ q) (Nat.le_refl _) (dt_empty s.heap I.big)
  have hl : (pairTrees [some ke] [ve] X.env pos).length = 1 := pairTrees_length _ _ _ _ rfl rfl
  rw [arm_eval_Dict, zip_pairTrees [some ke] [ve] X.env pos rfl rfl, dictDisplay_pairs (pairTrees [some ke] [ve] X.env pos) (fun z => by rw [z] at hl; cases hl) (by omega)]
  refine wpAny_bind (wpAny_standAt (wpAny_bind (wpAny_subDictH (knd := tupleKind (mixKind X.prog X.w)) (Q := fun d s' => wpAny (model X.prog X.w) X.A (pure (Value.ref d)) (EP X pins σ Q) X.xe s') (show X.A.units < cLine by omega) (by omega) ?_)))
  refine pairTrees_cons_walk (thn (hk.run pins _ σ _ _ I1 (q _ hn)) fun u s1 ⟨x, H1, I2, rx, q1⟩ => thn (hv.run pins s1 σ H1 _ I2 q1) fun v s2 ⟨y, H2, I3, ry, b, k, ex, eb, ep, q2⟩ => ?_)
  subst ex
  obtain rfl : u = Value.ref b := rx
  obtain ⟨z, hd, xs, rel, dd⟩ := dt_of I3.hok ep
  cases rel
  refine pairTrees_nil_walk ⟨[(k, b, v)], ⟨rfl, rfl, key_of I3.hok eb, trivial⟩, dd, fun h' tk dd' hs => ?_⟩
  have e1 : storedAllH ([] : List (List L2.Key × Addr × Value)) [(k, b, v)] = [(k, b, v)] := rfl
  rw [e1] at dd'
  obtain ⟨o, es, ep2, hq, h2, h3, h4, _, h5⟩ := dd'
  refine wpAny_pure ⟨.ref s.heap.objs.size, _, d_write (t' := tk) (ob := .dT [(k, y)]) I3 (by rw [ep]; exact True.intro) hs ⟨o, hq⟩ ⟨?_, hd, [(k, b, v)], .cons ⟨rfl, ?_, ry⟩ .nil, o, es, ep2, hq, h2, h3, h4, h5⟩, rfl, q2⟩
  · rw [sizeLine_eq]
    show 1 ≤ _
    omega
  · have nb : b ≠ s.heap.objs.size := fun z => by
      rw [z, ep] at eb
      cases eb
    rw [upd_ne nb]
    exact eb
end Mz

set_option Elab.async false
set_option linter.all false
set_option maxRecDepth 100000
set_option maxHeartbeats 4000000
/-! the search by widths in the heap -/
namespace Mz
open PySem PySem.Spec PyProof.Rows L2
def kP (p : Pr) : List L2.Key := [.inl p.1, .inl p.2]
theorem kP_inj {p q : Pr} (h : kP p = kP q) : p = q := by
  unfold kP at h
  injection h with h1 h2
  injection h2 with h2 _
  injection h1 with h1
  injection h2 with h2
  exact Prod.ext h1 h2
def dictOf (L : List Nd) : List (List L2.Key × V) := L.map fun n => (kP n.pr, V.ref n.wa)
theorem val_find (p : Pr) : ∀ L : List Nd, (∃ n ∈ L, n.pr = p ∧ valV (dictOf L) (kP p) = some (.ref n.wa)) ∨ (valV (dictOf L) (kP p) = none ∧ ∀ n ∈ L, n.pr ≠ p)
  | [] => .inr ⟨rfl, fun n hn => absurd hn (by simp)⟩
  | n :: L => by
    by_cases h : n.pr = p
    · exact .inl ⟨n, List.mem_cons_self, h, valV_pos (p := (kP n.pr, V.ref n.wa)) (by rw [h])⟩
    · have e : valV (dictOf (n :: L)) (kP p) = valV (dictOf L) (kP p) := valV_neg (p := (kP n.pr, V.ref n.wa)) fun z => h (kP_inj z)
      rcases val_find p L with ⟨m, hm, h1, h2⟩ | ⟨h1, h2⟩
      · exact .inl ⟨m, List.mem_cons_of_mem _ hm, h1, by rw [e]; exact h2⟩
      · refine .inr ⟨by rw [e]; exact h1, fun m hm => ?_⟩
        rcases List.mem_cons.mp hm with z | z
        · rw [z]
          exact h
        · exact h2 m z
theorem nodup_inj {α β : Type} {f : α → β} : ∀ {L : List α}, (L.map f).Nodup → ∀ {x y : α}, x ∈ L → y ∈ L → f x = f y → x = y
  | [], _, _, _, hx, _, _ => absurd hx (by simp)
  | a :: L, h, x, y, hx, hy, e => by
    rw [List.map_cons, List.nodup_cons] at h
    rcases List.mem_cons.mp hx with hx | hx
    · rcases List.mem_cons.mp hy with hy | hy
      · rw [hx, hy]
      · rw [hx] at e
        exact absurd (List.mem_map.mpr ⟨y, hy, e.symm⟩) h.1
    · rcases List.mem_cons.mp hy with hy | hy
      · rw [hy] at e
        exact absurd (List.mem_map.mpr ⟨x, hx, e⟩) h.1
      · exact nodup_inj h.2 hx hy e
structure HB (H0 H' : Hp) (d qa : Addr) (L : List Nd) : Prop where
  same : Same H0 H'
  fd : H0 d = none
  fq : H0 qa = none
  dd : H' d = some (.dT (dictOf L))
  qq : H' qa = some (.lst (L.map fun n => V.ref n.ta))
  tp : ∀ n ∈ L, H' n.ta = some (.tup [.int n.pr.1, .int n.pr.2])
  wl : ∀ n ∈ L, H' n.wa = some (.lst (n.wd.map V.int)) ∧ n.wa ≠ qa
  wf : ∀ n ∈ L, H0 n.wa = none
section
variable {H0 H' H2 : Hp} {d qa : Addr} {L : List Nd}
theorem HB.on (B : HB H0 H' d qa L) (s : Same H' H2) : HB H0 H2 d qa L :=
  ⟨B.same.trans s, B.fd, B.fq, s _ _ B.dd, s _ _ B.qq, fun n hn => s _ _ (B.tp n hn), fun n hn => ⟨s _ _ (B.wl n hn).1, (B.wl n hn).2⟩, B.wf⟩
theorem HB.new (B : HB H0 H' d qa L) {p : Addr} (hp : H' p = none) (o : HO) : HB H0 (upd H' p o) d qa L := B.on (same_upd (Same.refl _) hp)
/-- a pair with its word goes into the dict, then into the queue -/
theorem HB.push (B : HB H0 H' d qa L) {n : Nd} (ht : H' n.ta = some (.tup [.int n.pr.1, .int n.pr.2])) (hw : H' n.wa = some (.lst (n.wd.map V.int))) (nq : n.wa ≠ qa) (nf : H0 n.wa = none) :
    HB H0 (upd (upd H' d (.dT (dictOf L ++ [(kP n.pr, .ref n.wa)]))) qa (.lst (L.map (fun n => V.ref n.ta) ++ [.ref n.ta]))) d qa (L ++ [n]) := by
  have dq : d ≠ qa := fun z => by
    have h1 := B.dd
    rw [z, B.qq] at h1
    cases h1
  have kt : ∀ {b : Addr} {xs : List V}, H' b = some (.tup xs) → upd (upd H' d (.dT (dictOf L ++ [(kP n.pr, .ref n.wa)]))) qa (.lst (L.map (fun n => V.ref n.ta) ++ [.ref n.ta])) b = some (.tup xs) := fun {b xs} e => by
    have b1 : b ≠ d := fun z => by
      rw [z, B.dd] at e
      cases e
    have b2 : b ≠ qa := fun z => by
      rw [z, B.qq] at e
      cases e
    rw [upd_ne b2, upd_ne b1]
    exact e
  have kl : ∀ {b : Addr} {xs : List V}, H' b = some (.lst xs) → b ≠ qa → upd (upd H' d (.dT (dictOf L ++ [(kP n.pr, .ref n.wa)]))) qa (.lst (L.map (fun n => V.ref n.ta) ++ [.ref n.ta])) b = some (.lst xs) := fun {b xs} e b2 => by
    have b1 : b ≠ d := fun z => by
      rw [z, B.dd] at e
      cases e
    rw [upd_ne b2, upd_ne b1]
    exact e
  refine ⟨same_set (same_set B.same B.fd) B.fq, B.fd, B.fq, ?_, ?_, fun m hm => ?_, fun m hm => ?_, fun m hm => ?_⟩
  · rw [upd_ne dq, upd_same]
    unfold dictOf
    rw [List.map_append]
    rfl
  · rw [upd_same, List.map_append]
    rfl
  · rcases List.mem_append.mp hm with e | e
    · exact kt (B.tp m e)
    · rw [List.mem_singleton.mp e]
      exact kt ht
  · rcases List.mem_append.mp hm with e | e
    · exact ⟨kl (B.wl m e).1 (B.wl m e).2, (B.wl m e).2⟩
    · rw [List.mem_singleton.mp e]
      exact ⟨kl hw nq, nq⟩
  · rcases List.mem_append.mp hm with e | e
    · exact B.wf m e
    · rw [List.mem_singleton.mp e]
      exact nf
end
end Mz

set_option Elab.async false
set_option linter.all false
set_option maxRecDepth 100000
set_option maxHeartbeats 4000000
/-! walks over lists, range with two bounds and comprehensions while an error is handled -/
namespace Mz
open PySem PySem.Spec PyProof.Rows L2 L2H HotX
theorem next_list_end_hot {prog : Program} {w : World} {A : Around} {E : Value → Shared → Prop} {s : Shared} {it t x1 : Addr} {i : Nat} {items : Array Value} {Q : Option Value → Shared → Prop} (hot : HotAt A x1 s.heap)
    (hit : s.heap.IsListIter it t i) (ht : s.heap.IsList t items) (hx : items[i]? = none) (hQ : ∀ h', Heap.ExtBut it s.heap h' → Q none { s with heap := h' }) : wpAny (model prog w) A (pyNext (.ref it)) Q E s := by
  obtain ⟨o, ho, hc, hd⟩ := id hit
  obtain ⟨ol, hol, _, nl, hdl⟩ := ht
  obtain ⟨hh, o1, vs1, h1, d1, c1⟩ := hot
  have tT : s.TypeIs (.ref it) "list_iterator" := hit.typeIs
  unfold pyNext
  refine wpAny_bind (wpAny_attempt (wpAny_callSpecial?_slot (name := Str.ofString "__next__") tT slot_listiter_next (wpAny_call_entry slot_listiter_next tT entry_listiter_next ?_ (args_listiter_next _))))
  show wpAny _ _ (field (.ref it) 0 >>= fun v => _) _ _ s
  refine wpAny_bind (wpAny_field ho hd (x := .ref t) rfl ?_)
  show wpAny _ _ (ite ((Value.ref t == Value.none) = true) _ _) _ _ s
  rw [if_neg (fun z : (Value.ref t == Value.none) = true => Bool.false_ne_true z)]
  show wpAny _ _ (field (.ref it) 1 >>= fun v => _) _ _ s
  refine wpAny_bind (wpAny_field ho hd (x := .int i 0) rfl ?_)
  show wpAny _ _ (seqItems? (.ref t) >>= fun v => _) _ _ s
  refine wpAny_bind (wpAny_seqItems hol hdl ?_)
  simp only [Int.toNat_natCast, hx]
  have apart : x1 ≠ it := fun z => by
    rw [z, ho] at h1
    cases h1
    rw [hd] at d1
    injection d1 with d1
    rw [← d1] at c1
    cases c1
  refine wpAny_bind (wpAny_rule (wpAny_bind (wpAny_setField ho hd (by simp) ?_)))
  show wpAny _ _ ((newExc (.type "StopIteration") []) >>= fun v => _) _ _ _
  refine wpAny_bind ?_
  simp only [newExc, newTuple]
  refine wpAny_bind (wpAny_newObj_type ?_ (by size_fits))
  refine wpAny_bind (m := firstArgMember _ _) (wpAny_of_eq (a := Value.none) (by first | rfl | (simp only [firstArgMember] <;> rfl)) ?_)
  refine wpAny_newObj_type ?_ (by size_fits)
  have h1b : (s.heap.update it (Obj.mapFields (·.setIfInBounds 0 Value.none))).get? x1 = some o1 := by
    rw [Heap.get?_update_other _ _ (fun z => apart z.symm)]
    exact h1
  refine raiseNew_hot ⟨hh, o1, vs1, Heap.get?_push_of_some _ (Heap.get?_push_of_some _ h1b), d1, c1⟩ (Nat.ne_of_lt (Heap.lt_size (Heap.get?_push_of_some _ h1b)))
    (Heap.get?_push_size _ rfl) rfl (by first | (simp; done) | (simp; omega) | (simp only [Array.size_append]; simp; omega)) ?_
  refine wpAny_bind (wpAny_isInstance (T := "StopIteration") (b := true) ⟨_, (Heap.get?_update_self _ (Heap.get?_push_size _ rfl) rfl), rfl⟩ isSubtype_stop ?_)
  refine wpAny_pure (hQ _ fun b u nb e => ?_)
  have e1 : (s.heap.update it (Obj.mapFields (·.setIfInBounds 0 Value.none))).get? b = some u := by
    rw [Heap.get?_update_other _ _ (fun z => nb z.symm)]
    exact e
  rw [Heap.get?_update_other _ _ (fun z => Nat.lt_irrefl _ (show _ < _ by have := Heap.lt_size (Heap.get?_push_of_some { cls := Value.type "tuple", data := Data.seq #[] } e1); rw [← z] at this; exact this))]
  exact Heap.get?_push_of_some _ (Heap.get?_push_of_some _ e1)
theorem turn_listH {P : Program} {w : World} {K : PySem.W.Frag} {tg : Expr} (a it : Addr) : TurnH P w K tg (Itl K a) [it] it (fun i h => h.IsListIter it a i) where
  mem := List.mem_singleton.mpr rfl
  obj := fun i h ⟨o, e, c, d⟩ b hb => by
    rw [List.mem_singleton.mp hb]
    exact ⟨o, e, fun v z => by rw [d] at z; cases z⟩
  keep := fun i h h' st k => st.at fun o e => k it (List.mem_singleton.mpr rfl) o e
  item := by
    rintro X rfl rfl rfl hc i pins s σ H E I hf st ⟨xs, x, hq, hx⟩
    obtain ⟨its, rv, p, _⟩ := I.list hq
    obtain ⟨u, hu, ru⟩ := rv.get hx
    obtain ⟨f0, f1, f2, f3, f4, f5⟩ := hf it (List.mem_singleton.mpr rfl)
    have tp : s.heap.IsList a its.toArray := p.isList
    refine wpAny_pyNext_list_item st tp (x := u) (by simpa using hu) fun h' st' sb => ?_
    have J : Inv X pins σ H { s with heap := h' } := I.turned (t' := s.toks) (fun b o hb e => (sb.2 b hb).trans e) f0 f1 f3 f4 f5
    obtain ⟨o, e, c, d⟩ := id st'
    refine ⟨u, rfl, go_of (s := { s with heap := h' }) e c d (by decide) ⟨x, H, J, ru, ⟨rfl, fun ys hy => ?_⟩, st', fun b hb => (hf b hb).1⟩⟩
    rw [I.list_inj hy hq]
    exact hx
  done := by
    rintro X rfl rfl rfl hc i pins s σ H E I hf st ⟨xs, hq, hx⟩
    obtain ⟨its, rv, p, _⟩ := I.list hq
    obtain ⟨f0, f1, f2, f3, f4, f5⟩ := hf it (List.mem_singleton.mpr rfl)
    have hl := rv.length
    obtain ⟨x1, hot⟩ := hc.at I
    have tp : s.heap.IsList a its.toArray := p.isList
    exact next_list_end_hot hot st tp (by simp; omega) fun h' eb => ⟨rfl, I.turned (t' := s.toks) (fun b o hb e => eb b o hb e) f0 f1 f3 f4 f5⟩
  self := fun _ _ _ _ _ st h => wpAny_pyIter_listiter st h
theorem pi_listH {X : Cx} {tg l : Expr} {tl : TE} (hl : PE X l tl) : PIH X tg l (iList X.K tl) := by
  refine ⟨fun pins s σ H R I h => thn (hl.run pins s σ H _ I h) fun v s1 ⟨x, H1, I1, r1, a, e, ⟨xs, hq⟩, q⟩ => ?_⟩
  subst e
  cases r1
  obtain ⟨its, rv, p, _⟩ := I1.list hq
  have tp : s1.heap.IsList a its.toArray := p.isList
  refine wpAny_pyIter_list tp ⟨s1.heap.objs.size, [s1.heap.objs.size], _, _, H1, rfl, I1.kept (t' := s1.toks) (fun b o e => Heap.get?_push_of_some _ e), turn_listH a _, ⟨_, Heap.get?_push_size _ rfl, rfl, rfl⟩, fun b hb => ?_, q⟩
  rw [List.mem_singleton.mp hb]
  exact I1.fpOk (Nat.le_refl _) (I1.hok.fresh (Nat.le_refl _))
section
variable {X : Cx} {tg : Expr}
theorem pi_range2H {a b : Expr} {ta : TA} {p pos : Pos} (hg : Gl X "range") (hm : X.mg "range" = none) (ha : PA X [a, b] ta) (h1 : starEach [a, b] X.env = [(false, eval a X.env), (false, eval b X.env)] := by rfl) (h2 : starEach [b] X.env = [(false, eval b X.env)] := by rfl) :
    PIH X tg (.Call (.Name "range" p) [a, b] [] pos) (iRng2 ta) := by
  refine ⟨fun pins s σ H R I h => Call_ (ld_blt I hg hm boot_range (PyProof.Rows.callWith_type1 (thn (ha.run pos pins s σ H _ I h) fun us s1 ⟨vs, H1, I1, r1, q1⟩ => ?_) (by rw [h1, h2]) (by rw [h2]; rfl)))⟩
  obtain ⟨i, j, rfl, ⟨q1, q2, q3, q4⟩, q⟩ := q1
  cases r1 with
  | cons ra rr =>
    cases rr with
    | cons rb rn =>
      cases rn
      obtain ⟨_, rfl⟩ := ra
      obtain ⟨_, rfl⟩ := rb
      exact call_range_2 (range_itH I1 q1 q2 q3 q4 q)
end
/-! ### a comprehension while an error is handled: its block keeps that error's object as a pin -/
section
variable {X : Cx} {p : Addr × Obj}
/-- a pin moved between the context and the state's own -/
theorem inv_toPn {B : Cx} {σ : L2.St} {H : Hp} {s : Shared} (hb : B.pn = []) (I : Inv B [p] σ H s) : Inv { B with pn := [p] } [] σ H s :=
  ⟨⟨I.ok.mod, I.ok.kind, I.ok.glob, I.ok.blt, I.ok.above, I.ok.inj, I.ok.has, I.ok.cab, I.ok.hd, I.ok.frames, I.ok.stk, I.ok.exf, I.ok.bs, I.ok.bsz, I.ok.noex, I.ok.exfs, I.ok.funs, I.ok.frf⟩, I.os, I.bare, I.base, I.loc, I.cell, I.free, I.freeC,
    fun q hq => I.pin q (by rw [hb]; simpa using hq), I.hok, I.len⟩
theorem inv_fromPn {B : Cx} {σ : L2.St} {H : Hp} {s : Shared} (hb : B.pn = []) (I : Inv { B with pn := [p] } [] σ H s) : Inv B [p] σ H s :=
  ⟨⟨I.ok.mod, I.ok.kind, I.ok.glob, I.ok.blt, I.ok.above, I.ok.inj, I.ok.has, I.ok.cab, I.ok.hd, I.ok.frames, I.ok.stk, I.ok.exf, I.ok.bs, I.ok.bsz, I.ok.noex, I.ok.exfs, I.ok.funs, I.ok.frf⟩, I.os, I.bare, I.base, I.loc, I.cell, I.free, I.freeC,
    fun q hq => I.pin q (by rw [hb] at hq; simpa using hq), I.hok, I.len⟩
theorem fp_toPn {B : Cx} {H : Hp} {b : Addr} (hb : B.pn = []) (h : FpOk B [p] H b) : FpOk { B with pn := [p] } [] H b :=
  ⟨h.1, h.2.1, h.2.2.1, h.2.2.2.1, h.2.2.2.2.1, fun q hq => h.2.2.2.2.2 q (by rw [hb]; simpa using hq)⟩
variable {B : Cx} {tg : Expr} {J : It} {fp : List Addr} {it : Addr} {tn : Nat → Heap → Prop} {i : Nat} {s : Shared} {σ : L2.St} {H : Hp} {E : Value → Shared → Prop}
theorem hot_done (T : TurnH B.prog B.w B.K tg J fp it tn) (hb : B.pn = []) (h1 : Hot1 B.A p) (I : Inv B [p] σ H s) (hf : ∀ b ∈ fp, FpOk B [p] H b) (st : tn i s.heap) (h : J.stop i H) :
    wpAny (model B.prog B.w) B.A (pyNext (.ref it)) (fun r s1 => r = none ∧ Inv B [p] σ H s1) E s :=
  thn (T.done { B with pn := [p] } rfl rfl rfl ⟨p, h1, List.mem_cons_self⟩ i [] s σ H E (inv_toPn hb I) (fun b hbm => fp_toPn hb (hf b hbm)) st h) fun _ _ ⟨a, b⟩ => ⟨a, inv_fromPn hb b⟩
theorem hot_item (T : TurnH B.prog B.w B.K tg J fp it tn) (hb : B.pn = []) (h1 : Hot1 B.A p) (I : Inv B [p] σ H s) (hf : ∀ b ∈ fp, FpOk B [p] H b) (st : tn i s.heap) (h : J.go i H) :
    wpAny (model B.prog B.w) B.A (pyNext (.ref it)) (fun r s1 => ∃ u, r = some u ∧
      wpAny (model B.prog B.w) B.A (letOwnedTupleGo tg (.ref it) u) (fun _ s2 => ∃ x H', Inv B [p] σ H' s2 ∧ RelV x u ∧ J.yld i H x H' ∧ tn (i + 1) s2.heap ∧ ∀ b ∈ fp, H' b = none) E s1) E s :=
  thn (T.item { B with pn := [p] } rfl rfl rfl ⟨p, h1, List.mem_cons_self⟩ i [] s σ H E (inv_toPn hb I) (fun b hbm => fp_toPn hb (hf b hbm)) st h) fun _ _ ⟨u, a, b⟩ => ⟨u, a, thn b fun _ _ ⟨x, H', c, d⟩ => ⟨x, H', inv_fromPn hb c, d⟩⟩
end
section
variable {X : Cx}
/-- [elt for tg in iter if ..] -/
theorem pe_lcH {elt tg iter : Expr} {ifs : List Expr} {scope : Scope} {own : List (Str × Nat)} {pos : Pos} {wi : TI} {g : TG} {tt : TT} {te : TE} (hc : HotC X) (hN : X.N.Nodup) (hi : PIH X tg iter wi) (ok : BlkOk X.N X.env.scope scope own)
    (hg : ∀ (s : Shared) (H : Hp) (C : Addr) (cl : List (Str × Addr)) (fp : List Addr), PG (X.blk s H scope (compEnvC scope cl C X.env) fp) tg g) (ht : ∀ (s : Shared) (H : Hp) (C : Addr) (cl : List (Str × Addr)) (fp : List Addr), PTs (X.blk s H scope (compEnvC scope cl C X.env) fp) ifs tt)
    (he : ∀ (s : Shared) (H : Hp) (C : Addr) (cl : List (Str × Addr)) (fp : List Addr), PE (X.blk s H scope (compEnvC scope cl C X.env) fp) elt te) (hs : ∀ x, foldedSetIterable iter X.env x = pure x := by intro _; rfl) :
    PE X (.ListComp elt [⟨tg, iter, ifs, 0⟩] scope pos) (tLc wi g tt te (own.map (·.2))) := by
  refine ⟨fun pins s σ H Q I h => ?_⟩
  obtain ⟨p, hot, hp⟩ := hc
  have fr : ∀ y ∈ scope.names, y.2 = .free → ∃ c, X.env.cells.lookup y.1 = some c := fun y hy e => (ok.free y hy e).elim (fun k => I.ok.has _ (.inl k)) (fun k => I.ok.has _ (.inr k))
  rw [eval_ListComp]
  refine wpAny_comprehension_free (use := none) rfl hs (closure_ok fr) ok.kind (fun y hy e => by rw [ok.uniq y hy, e]) (thn (hi.run pins s σ H _ I h) fun _ _ hx => thn hx fun itv s2 h2 => ?_)
  obtain ⟨it, fp, tn, J, H2, rfl, I2, T, st2, f2, q⟩ := h2
  refine wpAny_newObj_type (newEnv_comp ?_) (by show 0 ≤ sizeLine; decide)
  generalize eD : s2.heap.objs.size = D
  obtain ⟨W, ⟨m0, w0⟩, turn⟩ := q D (I2.hok.fresh (Nat.le_of_eq eD))
  generalize e3 : ({ s2 with heap := s2.heap.push { cls := .type "list", data := .seq ([] : List Value).toArray } } : Shared) = s3
  have hp3 : s3.heap = s2.heap.push { cls := .type "list", data := .seq ([] : List Value).toArray } := by rw [← e3]
  have I3 : Inv X pins σ (upd H2 D (.lst [])) s3 := by
    subst e3
    exact I2.laid (t' := s2.toks) (fun b o e => Heap.get?_push_of_some _ e) (Nat.le_of_eq eD) ⟨Nat.zero_le _, [], 0, .nil, by rw [← eD]; exact Heap.get?_push_size _ rfl⟩
  have below : ∀ b ∈ fp, b < s2.heap.objs.size := fun b hb => let ⟨_, e, _⟩ := T.obj _ _ st2 b hb; Heap.lt_size e
  have f3 : ∀ b ∈ fp, FpOk X pins (upd H2 D (.lst [])) b ∧ b < s3.heap.objs.size := fun b hb =>
    ⟨⟨(upd_ne (by rw [← eD]; exact Nat.ne_of_lt (below b hb))).trans (f2 b hb).1, (f2 b hb).2⟩, by rw [hp3, Heap.size_push]; exact Nat.lt_succ_of_lt (below b hb)⟩
  have st3 : tn 0 s3.heap := T.keep _ _ _ st2 fun b _ o e => by rw [hp3]; exact Heap.get?_push_of_some _ e
  have B0 := block_start I3 ok hN f3
  -- the error's object, as a pin of the block
  have pin3 := I3.pin p (List.mem_append_left _ hp)
  have pinB : s3.heap.get? p.1 = some p.2 ∧ p.1 ∉ frs X.stack := by
    refine ⟨pin3.1, ?_⟩
    rcases I3.ok.stk with e | ⟨e, e2⟩
    · rw [e]
      exact pin3.2.2.2.1
    · rw [e]
      intro z
      unfold frs at z
      rw [List.filterMap_cons, e2] at z
      rcases List.mem_cons.mp z with z | z
      · exact pin3.2.2.1 z
      · exact pin3.2.2.2.1 z
  generalize ecl : cellsFrom (s3.heap.objs.size + 1) scope.names (cloFrom X.env.cells scope.names []) = cl at B0
  have pg := hg s3 (upd H2 D (.lst [])) s3.heap.objs.size cl fp
  have pt := ht s3 (upd H2 D (.lst [])) s3.heap.objs.size cl fp
  have pe := he s3 (upd H2 D (.lst [])) s3.heap.objs.size cl fp
  show codeAny _ _ (.compStart (.ListComp elt [⟨tg, iter, ifs, 0⟩] scope pos) 0 (.ref it) (.ref D) (compEnvC scope cl s3.heap.objs.size X.env)) (compPost (model X.prog X.w) X.A X.xe none (EP X pins σ Q) (.ref D) s3.heap.objs.size) { s3 with heap := pushCells (s3.heap.push { cls := .type "dict", data := .dict #[] }) scope.names }
  have fB : ∀ b ∈ fp, (upd H2 D (.lst [])) b = none := fun b hb => (f3 b hb).1.1
  generalize eH : upd H2 D (.lst []) = H3 at *
  generalize ec : compEnvC scope cl s3.heap.objs.size X.env = ce at *
  have cL : ce.locals = s3.heap.objs.size := by subst ec; rfl
  generalize e4 : ({ s3 with heap := pushCells (s3.heap.push { cls := .type "dict", data := .dict #[] }) scope.names } : Shared) = s4 at *
  have kp4 : ∀ b o, s3.heap.get? b = some o → s4.heap.get? b = some o := fun b o e => by rw [← e4]; exact pushCells_keeps _ _ _ _ (Heap.get?_push_of_some _ e)
  have I4 : Inv (X.blk s3 H3 scope ce fp) [p] (wipe σ (own.map (·.2))) H3 s4 := B0.pins_of fun q hq => by
    rw [List.mem_singleton.mp hq]
    exact ⟨kp4 _ _ pinB.1, pin3.2.1, by show p.1 ≠ ce.locals; rw [cL]; exact Nat.ne_of_lt (Heap.lt_size pinB.1), pinB.2, pin3.2.2.2.2⟩
  have st4 : tn 0 s4.heap := T.keep _ _ _ st3 fun b _ o e => kp4 b o e
  have apart : ∀ b ∈ fp, p.1 ≠ b := fun b hb => (f3 b hb).1.2.2.2.2.2 p (List.mem_append_left _ hp)
  have still : ∀ {σ' : L2.St} {H' : Hp} {s' : Shared}, Inv (X.blk s3 H3 scope ce fp) [p] σ' H' s' → (∀ b ∈ fp, H' b = none) → ∀ b ∈ fp, FpOk (X.blk s3 H3 scope ce fp) [p] H' b := fun I' hn b hb =>
    ⟨hn b hb, (I'.ok.exf b hb).1, I'.ok.exfs b hb, .inl hb, (I'.ok.exf b hb).2, fun q hq => by rw [List.mem_singleton.mp (show q ∈ [p] from hq)]; exact apart b hb⟩
  have loop : codeAny (model X.prog X.w) X.A (.compLoop (.ListComp elt [⟨tg, iter, ifs, 0⟩] scope pos) 0 (.ref it) (.ref D) ce) (compPost (model X.prog X.w) X.A X.xe none (EP X pins σ Q) (.ref D) s3.heap.objs.size) s4 := by
    refine compLoop_any (fun n s' => ∃ i H', Inv (X.blk s3 H3 scope ce fp) [p] (wipe σ (own.map (·.2))) H' s' ∧ tn i s'.heap ∧ (∀ b ∈ fp, H' b = none) ∧ W i n H') ?_ m0 ⟨0, H3, I4, st4, fB, w0⟩
    rintro n s5 ⟨i, H5, I5, st5, n5, w5⟩
    rcases turn i n H5 w5 with ⟨stop, qq⟩ | ⟨go, Nx, hNx, step⟩
    · refine thnF (hot_done (B := X.blk s3 H3 scope ce fp) (E := fun _ _ => False) T rfl hot I5 (still I5 n5) st5 stop) fun r s6 ⟨hr, I6⟩ => ?_
      subst hr
      have I7 : Inv X pins σ H5 s6 := I3.call' (ch := fp) I6.os I6.base I6.hok I6.bare fun b hb => ⟨(f3 b hb).1.2.2.2.1, (f3 b hb).1.2.1, (f3 b hb).1.2.2.2.2.1, (f3 b hb).1.2.2.2.2.2⟩
      have nC : H5 s3.heap.objs.size = none := by
        rw [← cL]
        exact I6.free
      obtain ⟨m, hn, _⟩ := I6.loc
      refine ⟨m, by rw [← cL]; exact hn, fun h'' sb => ?_⟩
      obtain ⟨g0, g1, g2, g3, g4, g5⟩ := I3.fpOk (H' := H5) (Nat.le_refl _) nC
      exact ⟨.ref D, H5, I7.turned (t' := s6.toks) (fun b o hb e => (sb.2 b hb).trans e) g0 g1 g3 g4 g5, rfl, qq⟩
    · refine thnF (hot_item (B := X.blk s3 H3 scope ce fp) (E := fun _ _ => False) T rfl hot I5 (still I5 n5) st5 go) fun r s6 ⟨u, hr, h6⟩ => ?_
      subst hr
      refine thnF h6 fun _ s7 ⟨x, H7, I7, r7, y7, st7, n7⟩ => ?_
      refine thnF (pg.run _ s7 _ H7 x u _ (I7.pinned (still I7 n7) (T.obj _ _ st7)) r7 (step x H7 y7)) fun _ s8 ⟨σ8, H8, I8, hw8, q8⟩ => ?_
      refine thnF (pt.run _ s8 σ8 H8 _ I8 q8) fun b s9 ⟨H9, I9, q9⟩ => ?_
      have next : ∀ {s' : Shared} {H' : Hp}, Inv (X.blk s3 H3 scope ce fp) ([p] ++ pinsAt fp s7.heap) σ8 H' s' → Nx H' → ∃ m, m < n ∧ ∃ i H', Inv (X.blk s3 H3 scope ce fp) [p] (wipe σ (own.map (·.2))) H' s' ∧ tn i s'.heap ∧ (∀ b ∈ fp, H' b = none) ∧ W i m H' := fun {s' H'} I' nx => by
        obtain ⟨m', hm, w'⟩ := hNx H' nx
        have at7 : ∀ b ∈ fp, ∀ o, s7.heap.get? b = some o → s'.heap.get? b = some o ∧ H' b = none := fun b hb o e =>
          have z := I'.pin (b, o) (List.mem_append_right _ (List.mem_append_right _ (mem_pinsAt hb e)))
          ⟨z.1, z.2.1⟩
        refine ⟨m', hm, i + 1, H', (I'.unpinned (pins := [p])).weak (by rw [← hw8, wipe_length]) (fun j v e => (wipe_some (hw8 ▸ e)).1), T.keep _ _ _ st7 fun b hb o e => (at7 b hb o e).1, fun b hb => ?_, w'⟩
        obtain ⟨o, e, _⟩ := T.obj _ _ st7 b hb
        exact (at7 b hb o e).2
      cases b with
      | false => exact next I9 q9
      | true =>
        refine thnF (pe.run _ s9 σ8 H9 _ I9 q9) fun z s10 ⟨yv, H10, I10, r10, acc, hD, hz, nx⟩ => ?_
        exact app_ok (X := X.blk s3 H3 scope ce fp) I10 hD hz r10 fun s11 I11 => next I11 nx
  exact codeAny_compStart_list loop (T.self X.A 0 _ _ _ st4 loop)
end
end Mz

set_option Elab.async false
set_option linter.all false
set_option maxRecDepth 100000
set_option maxHeartbeats 4000000
/-! dicts whose keys are tuples: a comprehension that makes one, del -/
namespace Mz
open PySem PySem.Spec PyProof.Rows L2
/-- one more key in a dict under work -/
theorem dset_T {X : Cx} {pins : List (Addr × Obj)} {σ : L2.St} {H : Hp} {s : Shared} {E : Value → Shared → Prop} {D b : Addr} {kvs : List (List L2.Key × V)} {k : List L2.Key} {v : V} {u r : Value} {Q : Unit → Shared → Prop} (hu : X.A.units + 1 < cLine) (I : Inv X pins σ H s)
    (hD : H D = some (.dT kvs)) (hb : H b = some (.tup (k.map kV))) (hz : kvs.length < sizeLine) (ry : RelV (.ref b) u) (rv : RelV v r) (h : ∀ s', Inv X pins σ (upd H D (.dT (putK kvs k v))) s' → Q () s') : wpAny (model X.prog X.w) X.A (dictSet D u r) Q E s := by
  obtain rfl : u = Value.ref b := ry
  obtain ⟨_, nsys, ls, rel, dd⟩ := dt_of I.hok hD
  have few : ls.length ≤ sizeLine := by
    have := Paired.length rel
    omega
  have few2 : (putK kvs k v).length ≤ sizeLine := by
    have := length_putK kvs k v
    omega
  have key := key_of I.hok hb
  unfold dictSet
  have room : (tupleKind (mixKind X.prog X.w)).room X.A := show X.A.units < cLine by omega
  refine wpAny_holding (wpAny_bind ((tupleKind (mixKind X.prog X.w)).pyHash room key ?_))
  refine wpAny_dictSetHashed_heap (knd := tupleKind (mixKind X.prog X.w)) (hsz := few) room key dd fun h' dd' hs => h _ ?_
  obtain ⟨o, es, ep, ho, h2, h3, h4, _, h5⟩ := dd'
  refine d_write (I.tok _) (by rw [hD]; exact True.intro) hs ⟨o, ho⟩ ⟨few2, nsys, _, (rel.put k hb rv).keeps fun c ys ec => ?_, o, es, ep, ho, h2, h3, h4, h5⟩
  rw [upd_ne (ne_of ec hD (fun z => nomatch z))]
  exact ec
/-- del d[k] -/
def sDelT (td ty : TE) : TS := fun D σ H => td σ H fun x H1 => ty σ H1 fun y H2 => ∃ a b kvs k v, x = .ref a ∧ H2 a = some (.dT kvs) ∧ y = .ref b ∧ H2 b = some (.tup (k.map kV)) ∧ valV kvs k = some v ∧ D.nx σ (upd H2 a (.dT (dropK kvs k)))
theorem ps_delT {X : Cx} {o i : Expr} {pos tpos : Pos} {td ty : TE} (hu : X.A.units + 1 < cLine) (ho : PE X o td) (hi : PE X i ty) : PS X (.Delete [.Subscript o i tpos] pos) (sDelT td ty) := by
  refine ⟨fun pins s σ H D I h => ?_⟩
  refine wpAny_Delete (wpAny_deleteEach_cons (wpAny_delete_Subscript (thn (ho.run pins s σ H _ I h) fun u s1 ⟨x, H1, I1, rx, q1⟩ => thn (hi.run pins s1 σ H1 _ I1 q1) fun v s2 ⟨y, H2, I2, ry, a, b, kvs, k, v0, ex, ha, ey, hb, hv, q2⟩ => ?_)))
  subst ex ey
  obtain rfl : u = Value.ref a := rx
  obtain rfl : v = Value.ref b := ry
  obtain ⟨z, nsys, ls, rel, dd⟩ := dt_of I2.hok ha
  have few : ls.length ≤ sizeLine := by
    have := Paired.length rel
    omega
  refine wpAny_delItem_slot dd.typeIs (by decide) PySem.F.slot_dict_delitem (call_meetsIn PySem.F.slot_dict_delitem dd.typeIs PySem.F.entry_dict_delitem (PySem.F.args_dict_delitem_2 _ _) (meetsH_dict_delitem (tupleKind (mixKind X.prog X.w)) a b nsys)
    ⟨tupleKind_room_in1 hu, k, ls, key_of I2.hok hb, dd, few, fun p hp h' dd' hs => ?_, fun hn => ?_⟩)
  · obtain ⟨o, es, ep, hq, h2, h3, h4, _, h5⟩ := dd'
    have I3 := d_write (t' := s2.toks + (tupleKind (mixKind X.prog X.w)).draws k) (ob := .dT (dropK kvs k)) (I2.tok _) (by rw [ha]; exact True.intro) hs ⟨o, hq⟩ ⟨Nat.le_trans (dropK_le kvs k) z, nsys, _, (L2.DX.KT_drop k rel).keeps (fun c ys ec => (by rw [upd_ne (ne_of ec ha (fun z => nomatch z))]; exact ec)), o, es, ep, hq, h2, h3, h4, h5⟩
    exact wpAny_deleteEach_nil ⟨σ, _, I3, q2⟩
  · have r := rel.val k
    rw [hv, hn] at r
    exact (show False from r).elim
/-- {k: v for target in iter if ..}, the keys tuples: D the new dict -/
def tDcT (wi : TI) (g : TG) (tt : TT) (tk tv : TE) (ns : List Nat) : TE := fun σ H Q => wi σ H fun J H1 => ∀ D, H1 D = none →
  ∃ W : Nat → Nat → Hp → Prop, (∃ m, W 0 m (upd H1 D (.dT []))) ∧ ∀ i m H, W i m H →
    (J.stop i H ∧ Q (.ref D) H) ∨
    (J.go i H ∧ ∃ Nx : Hp → Prop, (∀ H', Nx H' → ∃ m', m' < m ∧ W (i + 1) m' H') ∧
      ∀ x H', J.yld i H x H' → g x (wipe σ ns) H' fun σ2 H2 => wipe σ2 ns = wipe σ ns ∧
        tt σ2 H2 fun c H3 => if c = true then (tk σ2 H3 fun y H4 => tv σ2 H4 fun z H5 => ∃ kvs k b, y = .ref b ∧ H5 b = some (.tup (k.map kV)) ∧ H5 D = some (.dT kvs) ∧ kvs.length < sizeLine ∧ Nx (upd H5 D (.dT (putK kvs k z)))) else Nx H3)
section
variable {X : Cx}
theorem pe_dcT {kx vx tg iter : Expr} {ifs : List Expr} {scope : Scope} {own : List (Str × Nat)} {pos : Pos} {wi : TI} {g : TG} {tt : TT} {tk tv : TE} (hu : X.A.units + 1 < cLine) (hc : X.calm = true) (hN : X.N.Nodup) (hi : PI X tg iter wi) (ok : BlkOk X.N X.env.scope scope own)
    (hg : ∀ (s : Shared) (H : Hp) (C : Addr) (cl : List (Str × Addr)) (fp : List Addr), PG (X.blk s H scope (compEnvC scope cl C X.env) fp) tg g) (ht : ∀ (s : Shared) (H : Hp) (C : Addr) (cl : List (Str × Addr)) (fp : List Addr), PTs (X.blk s H scope (compEnvC scope cl C X.env) fp) ifs tt)
    (hk : ∀ (s : Shared) (H : Hp) (C : Addr) (cl : List (Str × Addr)) (fp : List Addr), PE (X.blk s H scope (compEnvC scope cl C X.env) fp) kx tk) (he : ∀ (s : Shared) (H : Hp) (C : Addr) (cl : List (Str × Addr)) (fp : List Addr), PE (X.blk s H scope (compEnvC scope cl C X.env) fp) vx tv) (hs : ∀ x, foldedSetIterable iter X.env x = pure x := by intro _; rfl) :
    PE X (.DictComp kx vx [⟨tg, iter, ifs, 0⟩] scope pos) (tDcT wi g tt tk tv (own.map (·.2))) := by
  refine ⟨fun pins s σ H Q I h => ?_⟩
  have fr : ∀ y ∈ scope.names, y.2 = .free → ∃ c, X.env.cells.lookup y.1 = some c := fun y hy e => (ok.free y hy e).elim (fun k => I.ok.has _ (.inl k)) (fun k => I.ok.has _ (.inr k))
  rw [arm_eval_DictComp]
  refine wpAny_comprehension_free (use := none) rfl hs (closure_ok fr) ok.kind (fun y hy e => by rw [ok.uniq y hy, e]) (thn (hi.run pins s σ H _ I h) fun _ _ hx => thn hx fun itv s2 h2 => ?_)
  obtain ⟨it, fp, tn, J, H2, rfl, I2, T, st2, f2, q⟩ := h2
  refine wpAny_newObj_type (newEnv_comp ?_)
  generalize eD : s2.heap.objs.size = D
  obtain ⟨W, ⟨m0, w0⟩, turn⟩ := q D (I2.hok.fresh (Nat.le_of_eq eD))
  generalize e3 : ({ s2 with heap := s2.heap.push { cls := .type "dict", data := .dict #[] } } : Shared) = s3
  have hp3 : s3.heap = s2.heap.push { cls := .type "dict", data := .dict #[] } := by rw [← e3]
  have I3 : Inv X pins σ (upd H2 D (.dT [])) s3 := by
    subst e3
    exact I2.laid (t' := s2.toks) (fun b o e => Heap.get?_push_of_some _ e) (Nat.le_of_eq eD) (by rw [← eD]; exact dt_empty s2.heap I2.big)
  have below : ∀ b ∈ fp, b < s2.heap.objs.size := fun b hb => let ⟨_, e, _⟩ := T.obj _ _ st2 b hb; Heap.lt_size e
  have f3 : ∀ b ∈ fp, FpOk X pins (upd H2 D (.dT [])) b ∧ b < s3.heap.objs.size := fun b hb =>
    ⟨⟨(upd_ne (by rw [← eD]; exact Nat.ne_of_lt (below b hb))).trans (f2 b hb).1, (f2 b hb).2⟩, by rw [hp3, Heap.size_push]; exact Nat.lt_succ_of_lt (below b hb)⟩
  have st3 : tn 0 s3.heap := T.keep _ _ _ st2 fun b _ o e => by rw [hp3]; exact Heap.get?_push_of_some _ e
  have B0 := block_start I3 ok hN f3
  generalize ecl : cellsFrom (s3.heap.objs.size + 1) scope.names (cloFrom X.env.cells scope.names []) = cl at B0
  have pg := hg s3 (upd H2 D (.dT [])) s3.heap.objs.size cl fp
  have pt := ht s3 (upd H2 D (.dT [])) s3.heap.objs.size cl fp
  have pk := hk s3 (upd H2 D (.dT [])) s3.heap.objs.size cl fp
  have pe := he s3 (upd H2 D (.dT [])) s3.heap.objs.size cl fp
  show codeAny _ _ (.compStart (.DictComp kx vx [⟨tg, iter, ifs, 0⟩] scope pos) 0 (.ref it) (.ref D) (compEnvC scope cl s3.heap.objs.size X.env)) (compPost (model X.prog X.w) X.A X.xe none (EP X pins σ Q) (.ref D) s3.heap.objs.size) { s3 with heap := pushCells (s3.heap.push { cls := .type "dict", data := .dict #[] }) scope.names }
  have fB : ∀ b ∈ fp, (upd H2 D (.dT [])) b = none := fun b hb => (f3 b hb).1.1
  generalize eH : upd H2 D (.dT []) = H3 at *
  generalize ec : compEnvC scope cl s3.heap.objs.size X.env = ce at *
  have cL : ce.locals = s3.heap.objs.size := by subst ec; rfl
  generalize e4 : ({ s3 with heap := pushCells (s3.heap.push { cls := .type "dict", data := .dict #[] }) scope.names } : Shared) = s4 at *
  have kp4 : ∀ b o, s3.heap.get? b = some o → s4.heap.get? b = some o := fun b o e => by rw [← e4]; exact pushCells_keeps _ _ _ _ (Heap.get?_push_of_some _ e)
  have I4 : Inv (X.blk s3 H3 scope ce fp) [] (wipe σ (own.map (·.2))) H3 s4 := B0
  have st4 : tn 0 s4.heap := T.keep _ _ _ st3 fun b _ o e => kp4 b o e
  have still : ∀ {σ' : L2.St} {H' : Hp} {s' : Shared}, Inv (X.blk s3 H3 scope ce fp) [] σ' H' s' → (∀ b ∈ fp, H' b = none) → ∀ b ∈ fp, FpOk (X.blk s3 H3 scope ce fp) [] H' b := fun I' hn b hb =>
    ⟨hn b hb, (I'.ok.exf b hb).1, I'.ok.exfs b hb, .inl hb, (I'.ok.exf b hb).2, fun q hq => absurd (show q ∈ ([] : List (Addr × Obj)) from hq) (by simp)⟩
  have loop : codeAny (model X.prog X.w) X.A (.compLoop (.DictComp kx vx [⟨tg, iter, ifs, 0⟩] scope pos) 0 (.ref it) (.ref D) ce) (compPost (model X.prog X.w) X.A X.xe none (EP X pins σ Q) (.ref D) s3.heap.objs.size) s4 := by
    refine compLoop_anyD (fun n s' => ∃ i H', Inv (X.blk s3 H3 scope ce fp) [] (wipe σ (own.map (·.2))) H' s' ∧ tn i s'.heap ∧ (∀ b ∈ fp, H' b = none) ∧ W i n H') ?_ m0 ⟨0, H3, I4, st4, fB, w0⟩
    rintro n s5 ⟨i, H5, I5, st5, n5, w5⟩
    rcases turn i n H5 w5 with ⟨stop, qq⟩ | ⟨go, Nx, hNx, step⟩
    · refine thnF (T.done (X.blk s3 H3 scope ce fp) rfl rfl rfl hc i [] s5 _ H5 (fun _ _ => False) I5 (still I5 n5) st5 stop) fun r s6 ⟨hr, I6⟩ => ?_
      subst hr
      have I7 : Inv X pins σ H5 s6 := I3.call' (ch := fp) I6.os I6.base I6.hok I6.bare fun b hb => ⟨(f3 b hb).1.2.2.2.1, (f3 b hb).1.2.1, (f3 b hb).1.2.2.2.2.1, (f3 b hb).1.2.2.2.2.2⟩
      have nC : H5 s3.heap.objs.size = none := by
        rw [← cL]
        exact I6.free
      obtain ⟨m, hn, _⟩ := I6.loc
      refine ⟨m, by rw [← cL]; exact hn, fun h'' sb => ?_⟩
      obtain ⟨g0, g1, g2, g3, g4, g5⟩ := I3.fpOk (H' := H5) (Nat.le_refl _) nC
      exact ⟨.ref D, H5, I7.turned (t' := s6.toks) (fun b o hb e => (sb.2 b hb).trans e) g0 g1 g3 g4 g5, rfl, qq⟩
    · refine thnF (T.item (X.blk s3 H3 scope ce fp) rfl rfl rfl hc i [] s5 _ H5 (fun _ _ => False) I5 (still I5 n5) st5 go) fun r s6 ⟨u, hr, h6⟩ => ?_
      subst hr
      refine thnF h6 fun _ s7 ⟨x, H7, I7, r7, y7, st7, n7⟩ => ?_
      refine thnF (pg.run _ s7 _ H7 x u _ (I7.pinned (still I7 n7) (T.obj _ _ st7)) r7 (step x H7 y7)) fun _ s8 ⟨σ8, H8, I8, hw8, q8⟩ => ?_
      refine thnF (pt.run _ s8 σ8 H8 _ I8 q8) fun b s9 ⟨H9, I9, q9⟩ => ?_
      have next : ∀ {s' : Shared} {H' : Hp}, Inv (X.blk s3 H3 scope ce fp) ([] ++ pinsAt fp s7.heap) σ8 H' s' → Nx H' → ∃ m, m < n ∧ ∃ i H', Inv (X.blk s3 H3 scope ce fp) [] (wipe σ (own.map (·.2))) H' s' ∧ tn i s'.heap ∧ (∀ b ∈ fp, H' b = none) ∧ W i m H' := fun {s' H'} I' nx => by
        obtain ⟨m', hm, w'⟩ := hNx H' nx
        have at7 : ∀ b ∈ fp, ∀ o, s7.heap.get? b = some o → s'.heap.get? b = some o ∧ H' b = none := fun b hb o e =>
          have z := I'.pin (b, o) (List.mem_append_right _ (List.mem_append_right _ (mem_pinsAt hb e)))
          ⟨z.1, z.2.1⟩
        refine ⟨m', hm, i + 1, H', (I'.unpinned (pins := [])).weak (by rw [← hw8, wipe_length]) (fun j v e => (wipe_some (hw8 ▸ e)).1), T.keep _ _ _ st7 fun b hb o e => (at7 b hb o e).1, fun b hb => ?_, w'⟩
        obtain ⟨o, e, _⟩ := T.obj _ _ st7 b hb
        exact (at7 b hb o e).2
      cases b with
      | false => exact next I9 q9
      | true =>
        refine thnF (pk.run _ s9 σ8 H9 _ I9 q9) fun z s10 ⟨yk, H10, I10, r10, q10⟩ => ?_
        refine thnF (pe.run _ s10 σ8 H10 _ I10 q10) fun z2 s11 ⟨yv, H11, I11, r11, kvs, k, b, ek, eb, hD11, hz11, nx⟩ => ?_
        subst ek
        exact dset_T (X := X.blk s3 H3 scope ce fp) hu I11 hD11 eb hz11 r10 r11 fun s12 I12 => next I12 nx
  exact codeAny_compStart_dict loop (T.self X.A 0 _ _ _ st4 loop)
end
end Mz

set_option Elab.async false
set_option linter.all false
set_option maxRecDepth 100000
set_option maxHeartbeats 4000000
/-! == and != of machines -/
namespace Mz
open PySem PySem.Spec PyProof.Rows L2
def dRow (w : List Int) : PyData := .tuple (w.map .int)
def dMach (M : Mach) : PyData := .tuple [.int M.ls, .int M.os, .tuple (M.rows.map dRow), dRow M.outs]
theorem depthI : ∀ ns : List Int, PyData.depthAll (ns.map PyData.int) ≤ 1
  | [] => by simp [PyData.depthAll]
  | _ :: r => by
    have := depthI r
    simp only [List.map_cons, PyData.depthAll, PyData.depth]
    omega
theorem lay_ints : ∀ ns : List Int, PyData.canLayAll0 (ns.map PyData.int) = true
  | [] => by simp [PyData.canLayAll0]
  | _ :: r => by simp [PyData.canLayAll0, PyData.canLay0, lay_ints r]
theorem depth_rows : ∀ rs : List (List Int), PyData.depthAll (rs.map dRow) ≤ 2
  | [] => by simp [PyData.depthAll]
  | w :: r => by
    have := depth_rows r
    have := depthI w
    simp only [List.map_cons, PyData.depthAll]
    have e : PyData.depth (dRow w) = 1 + PyData.depthAll (w.map PyData.int) ∨ PyData.depth (dRow w) = PyData.depthAll (w.map PyData.int) + 1 := by
      unfold dRow
      simp only [PyData.depth]
      omega
    omega
theorem lay_rows : ∀ rs : List (List Int), PyData.canLayAll0 (rs.map dRow) = true
  | [] => by simp [PyData.canLayAll0]
  | w :: r => by
    have := lay_rows r
    have := lay_ints w
    simp [PyData.canLayAll0, dRow, PyData.canLay0, *]
theorem lay_mach (M : Mach) : PyData.canLay0 (dMach M) = true := by
  have := lay_rows M.rows
  have := lay_ints M.outs
  unfold dMach dRow at *
  simp [PyData.canLayAll0, PyData.canLay0, *]
theorem shaped_mach (M : Mach) : SeqAt.shaped (dMach M) = true := by
  have h1 := depth_rows M.rows
  have h2 := depthI M.outs
  have h3 : PyData.depth (dMach M) ≤ 64 := by
    have e : PyData.depth (dRow M.outs) ≤ PyData.depthAll (M.outs.map PyData.int) + 1 := by
      unfold dRow
      simp only [PyData.depth]
      omega
    unfold dMach
    simp only [PyData.depthAll, PyData.depth]
    omega
  show (PyData.canLay0 (dMach M) && decide (PyData.depth (dMach M) ≤ 64)) = true
  rw [lay_mach, decide_eq_true h3]
  rfl
theorem dp_rows {K : PySem.W.Frag} {H : Hp} : ∀ (rs : List Addr) (rows : List (List Int)), rs.length = rows.length → (∀ (i : Nat) (r : Addr) (w : List Int), rs[i]? = some r → rows[i]? = some w → IT H r w) → DpAll K H (rs.map V.ref) (rows.map dRow)
  | [], [], _, _ => .nil
  | r :: rs, w :: rows, l, h => .cons (.tup (SqT.of (h 0 r w rfl rfl)) (dp_ints w)) (dp_rows rs rows (by simpa using l) fun i r w a b => h (i + 1) r w a b)
  | [], _ :: _, l, _ => by simp at l
  | _ :: _, [], l, _ => by simp at l
theorem dp_mach {K : PySem.W.Frag} {H : Hp} {m : Addr} {M : Mach} (h : MA H m M) : Dp K H (.ref m) (dMach M) := by
  obtain ⟨mv, ou, rs, hM⟩ := h
  exact .tup (SqT.of hM.top) (.cons (.int _) (.cons (.int _) (.cons (.tup (SqT.of hM.mv) (dp_rows rs M.rows hM.len hM.row)) (.cons (.tup (SqT.of hM.ou) (dp_ints M.outs)) .nil))))
section
variable {K : PySem.W.Frag} {H : Hp} {a b : Addr} {M : Mach} {Q : VK}
theorem eq_mach (h1 : MA H a M) (h2 : MA H b M) (q : Q (.bl true) H) : rEqD K (.ref a) (.ref b) H Q :=
  ⟨_, _, dp_mach h1, dp_mach h2, shaped_mach M, shaped_mach M, by rw [SeqAt.eqv_refl _ (lay_mach M)]; exact q⟩
theorem ne_mach (h1 : MA H a M) (h2 : MA H b M) (q : Q (.bl false) H) : rNeD K (.ref a) (.ref b) H Q :=
  ⟨_, _, dp_mach h1, dp_mach h2, shaped_mach M, shaped_mach M, by rw [SeqAt.eqv_refl _ (lay_mach M)]; exact q⟩
end
def rMinK (K : PySem.W.Frag) : List V → Hp → VK → Prop := rMin K
theorem call_minK {X : Cx} (hc : X.calm = true) : CallR X (.builtin "min") (rMinK X.K) := cr_min hc
end Mz

set_option Elab.async false
set_option linter.all false
set_option maxRecDepth 100000
set_option maxHeartbeats 4000000
/-! try: .. except A as e: .. except B: .. : the first handler with a name, the others without -/
namespace Mz
open PySem PySem.Spec PyProof.Rows L2 L2N
/-- what a suite's end says of the try -/
theorem suite_end {X : Cx} {pins : List (Addr × Obj)} {a : Addr} {oe : Obj} (o : X.Ok) {D : Ends} {fl : Flow} {t : Shared} (z : SP (X.suite a ((a, oe) :: (X.pn ++ pins))) [] D fl t) : SP X pins D fl t := by
  cases fl with
  | next => exact (let ⟨σ1, G1, J, q⟩ := z; ⟨σ1, G1, J.unsuite o, q⟩)
  | brk => exact (let ⟨σ1, G1, J, q⟩ := z; ⟨σ1, G1, J.unsuite o, q⟩)
  | cont => exact (let ⟨σ1, G1, J, q⟩ := z; ⟨σ1, G1, J.unsuite o, q⟩)
  | ret u => exact (let ⟨v, σ1, G1, J, r, q⟩ := z; ⟨v, σ1, G1, J.unsuite o, r, q⟩)
section
variable {X : Cx} {x n : Str} {c : Value} {i : Nat} {body suite : List Stmt} {b₀ : Stmt} {np pos pos' : Pos} {tb : WX → TS} {ts : Addr → Value → Option Addr → TS} {Wout : WX} {hds : List ExceptHandler} {l : List (Value × (Addr → Value → Option Addr → TS))}
theorem ps_try_as_many (stk : X.stack = X.env :: X.outer) (own : X.env.frame = some X.env.locals) (nod : X.N.Nodup) (slot : X.N[i]? = some n) (loc : X.env.kindOf n = some .local) (nm : Names X x c) (out : L2N.Takes X Wout)
    (hbody : ∀ (W : WX) (pn : List (Addr × Obj)) (xe : Value → Shared → Prop), L2N.Takes (X.tr pn xe) W → PassesOwn (model X.prog X.w) X.A X.env xe → PSs (X.tr pn xe) body (tb W))
    (hfirst : ∀ (a : Addr) (oe : Obj) (cls : Value) (d : Option Addr) (pn : List (Addr × Obj)), Zn cls d oe → (∃ vs, oe.data = .fields vs) → PSs (X.suite a ((a, oe) :: pn)) (b₀ :: suite) (ts a cls d))
    (rest : L2N.HdsOk X hds l) : PS X (.Try body (.ExceptHandler (some (.Name x np)) (some n) (b₀ :: suite) pos' :: hds) [] [] pos) (fun D σ H => tb (wAs X.K c i ts (wMany X.K Wout D l) D) D σ H) := by
  refine ⟨fun pins s0 σ0 H0 D I0 start => ?_⟩
  have ok := I0.ok
  have frm : X.A.frames = some (X.env :: X.outer) := ok.frames.trans (congrArg some stk)
  refine wpAny_Try_except (wpAny_mono ((hbody (wAs X.K c i ts (wMany X.K Wout D l) D) (X.pn ++ pins) (fun e t1 => wpAny (model X.prog X.w) X.A (noteFrame e X.env) (fun _ t2 => wpAny (model X.prog X.w) X.A (setFlight e none) (fun _ t3 =>
    wpAny (model X.prog X.w) X.A (handleBy e X.env (.ExceptHandler (some (.Name x np)) (some n) (b₀ :: suite) pos' :: hds)) (SP X pins D) X.xe t3) X.xe t2) X.xe t1) (fun u t caught => ?_) PassesOwn.looking).run [] s0 σ0 H0 D (I0.toTry _) start) (fun fl t z => ?_) (fun _ _ e => e))
  · obtain ⟨a, B, tI, pins1, σ1, G1, cls, d, rfl, J1, nb, up, inSky, free, os, ag, b, hit, yes, no⟩ := caught
    have J : Inv X pins σ1 G1 tI := J1.ofTry ok
    refine Sky.land Zn.steady frm own (by rw [← stk]; exact inSky) fun g down up2 => ?_
    have JL : Inv X pins σ1 G1 { t with heap := g } := J.landed nb down.1 (up.trans up2) os ag
    obtain ⟨oe, vs, at_, zn, dat⟩ := down.there
    have out1 : a ∉ frs (X.env :: X.outer) := fun hm => by
      obtain ⟨_, o2, e2, z2⟩ := down.2.2.1.mem hm
      rw [at_] at e2
      cases e2
      exact z2 _ dat
    have notL : a ≠ X.env.locals := fun z => out1 (List.mem_filterMap.mpr ⟨X.env, List.mem_cons_self, by rw [own, z]⟩)
    have notF : a ∉ X.fs := fun hm => (List.mem_filterMap.mp hm).elim fun e q => out1 (List.mem_filterMap.mpr ⟨e, List.mem_cons_of_mem _ q.1, q.2⟩)
    have JS := JL.suite at_ dat free notL notF
    have ask : ∀ {y : Str} {k : Value} {q : Pos} {R : Value → Shared → Prop} {E : Value → Shared → Prop}, Names X y k → R k { t with heap := g } → wpAny (model X.prog X.w) (X.A.mark (some (.ref a))) (eval (.Name y q) X.env) R E { t with heap := g } := fun {y k q R E} nk r => by
      obtain ⟨g1, g2, g3 | ⟨g3, g4, g5⟩⟩ := nk
      · exact ld_glob (X := X.suite a ((a, oe) :: (X.pn ++ pins))) JS g1 g3 r g2
      · exact ld_blt (X := X.suite a ((a, oe) :: (X.pn ++ pins))) JS g1 g3 g4 r g5 g2
    have kind : PySem.W.Looks (model X.prog X.w) g (typeOf (.ref a)) cls := fun _ _ _ _ kp r => wpAny_typeOf_ref (kp _ _ at_) (zn.1.symm ▸ r)
    -- the handlers behind the first
    have behind : ∀ {hs2 : List ExceptHandler} {l2 : List (Value × (Addr → Value → Option Addr → TS))}, L2N.HdsOk X hs2 l2 → wMany X.K Wout D l2 cls d σ1 G1 → wpAny (model X.prog X.w) X.A (handleBy (.ref a) X.env hs2) (SP X pins D) X.xe { t with heap := g } := by
      intro hs2 l2 hk
      induction hk with
      | nil =>
        intro w
        obtain ⟨_, _, _, oe1, vs1, T, oT, ts1, e1, _, e3, e4, _⟩ := id down
        refine wpAny_handleBy_nil ?_
        unfold PySem.passOn
        refine wpAny_bind (wpAny_field e1 e3 e4 ?_)
        rw [if_neg (by simp : ¬ ((Value.ref T == Value.none) = true))]
        have go : wpAny (model X.prog X.w) X.A (setFlight (.ref a) X.env.frame) (fun _ t4 => wpAny (model X.prog X.w) X.A (throw (.ref a) : Sem Flow) (SP X pins D) X.xe t4) X.xe { t with heap := g } := by
          rw [own]
          exact HandSPX.setFlight_upZ down fun g4 sky4 up4 => wpAny_throw (out _ _ ⟨a, B, tI, pins, σ1, G1, cls, d, rfl, J, nb, (up.trans up2).trans up4, .inr (.inr (by rw [stk]; exact sky4)), free, os, ag, w⟩)
        first
          | exact wpAny_bind (wpAny_pure (wpAny_bind go))
          | exact wpAny_bind go
      | @cons y k ts2 b2 suite2 np2 pos2 hs3 l3 nk hs r ih =>
        rintro ⟨b2, hit2, yes2, no2⟩
        refine wpAny_handleBy_cons (codeAny_handlers_test (ask nk ((PySem.W.exm_one (M := model X.prog X.w) JL.kIn kind hit2).here ?_))) (by intro q; cases q)
        cases b2 with
        | false =>
          show wpAny _ X.A (handleBy (.ref a) X.env hs3) _ _ _
          exact ih (no2 rfl)
        | true =>
          refine codeAny_handlers_suite (HandSPX.lands_againZ down fun g4 down4 up4 => ?_)
          obtain ⟨oe4, vs4, at4, zn4, dat4⟩ := down4.there
          have J4 : Inv X pins σ1 G1 { t with heap := g4 } := J.landed nb down4.1 ((up.trans up2).trans up4) os ag
          exact wpAny_mono ((hs a oe4 cls d (X.pn ++ pins) zn4 ⟨_, dat4⟩).run [] _ _ G1 _ (J4.suite at4 dat4 free notL notF) (yes2 rfl a free)) (fun fl t6 z => suite_end ok z) fun _ _ z => z.elim
    refine wpAny_handleBy_cons (codeAny_handlers_test (ask nm ((PySem.W.exm_one (M := model X.prog X.w) JL.kIn kind hit).here ?_))) (by intro q; cases q)
    cases b with
    | false =>
      show wpAny _ X.A (handleBy (.ref a) X.env hds) _ _ _
      exact behind rest (no rfl)
    | true =>
      refine codeAny_handlers_suite_as (HandSPX.lands_againZ down fun g4 down4 up4 => ?_)
      obtain ⟨oe4, vs4, at4, zn4, dat4⟩ := down4.there
      have J4 : Inv X pins σ1 G1 { t with heap := g4 } := J.landed nb down4.1 ((up.trans up2).trans up4) os ag
      refine store_ok (X := X.suite a ((a, oe4) :: (X.pn ++ pins))) (v := .ref a) (J4.suite at4 dat4 free notL notF) nod slot (.inl loc) rfl (fun t5 J5 => ?_) (.inr loc)
      refine wpAny_mono ((hfirst a oe4 cls d (X.pn ++ pins) zn4 ⟨_, dat4⟩).run [] t5 _ G1 _ J5 (yes rfl a free)) (fun fl t6 z => ?_) fun _ _ z => z.elim
      have unbind : ∀ {σ6 : L2.St} {G6 : Hp} {R : Shared → Prop}, Inv (X.suite a ((a, oe4) :: (X.pn ++ pins))) [] σ6 G6 t6 → (∀ t7, Inv X pins (σ6.set i none) G6 t7 → R t7) → wpAny (model X.prog X.w) X.A (do bindName X.env n .none; unbindBehindTheSuite X.env n pos') (fun _ t7 => R t7) X.xe t6 :=
        fun J6 r => gone_ok (J6.unsuite ok) nod slot loc r
      cases fl with
      | next => exact (let ⟨σ6, G6, J6, q⟩ := z; unbind J6 fun t7 J7 => ⟨_, _, J7, q⟩)
      | brk => exact (let ⟨σ6, G6, J6, q⟩ := z; unbind J6 fun t7 J7 => ⟨_, _, J7, q⟩)
      | cont => exact (let ⟨σ6, G6, J6, q⟩ := z; unbind J6 fun t7 J7 => ⟨_, _, J7, q⟩)
      | ret u => exact (let ⟨v, σ6, G6, J6, r, q⟩ := z; unbind J6 fun t7 J7 => ⟨_, _, _, J7, r, q⟩)
  · cases fl with
    | next => exact wpAny_execs_nil (let ⟨σ1, G1, J, q⟩ := z; ⟨σ1, G1, J.ofTry ok, q⟩)
    | brk => exact (let ⟨σ1, G1, J, q⟩ := z; ⟨σ1, G1, J.ofTry ok, q⟩)
    | cont => exact (let ⟨σ1, G1, J, q⟩ := z; ⟨σ1, G1, J.ofTry ok, q⟩)
    | ret u => exact (let ⟨v, σ1, G1, J, r, q⟩ := z; ⟨v, σ1, G1, J.ofTry ok, r, q⟩)
end
end Mz

set_option Elab.async false
set_option linter.all false
set_option maxRecDepth 100000
set_option maxHeartbeats 4000000
/-! enumerate of a tuple -/
namespace Mz
open PySem PySem.Spec PyProof.Rows L2
theorem enumT_made (t : Addr) (items : Array Value) (n : Nat) (dct : Option Addr) (sl : Array (Option Value)) :
    Meets (Builtin.«enumerate.__new__» ⟨[.type "enumerate", .ref t], []⟩) (fun _ R s => s.heap.get? t = some { cls := .type "tuple", dict := dct, data := .seq items n, slots := sl } ∧
      R (.ok (.ret (.ref (s.heap.push { cls := .type "tuple_iterator", data := .fields #[.ref t, .int 0 0] }).objs.size)))
        { s with heap := (s.heap.push { cls := .type "tuple_iterator", data := .fields #[.ref t, .int 0 0] }).push { cls := .type "enumerate", data := .fields #[.none, .bool false, .ref s.heap.objs.size, rawInt 0, .none, .none] } }) :=
  .of_wp fun prog w A R s h => by
    obtain ⟨hp, g, d, tk, os⟩ := s
    obtain ⟨ht, r⟩ := h
    have sub := sub_enumerate
    have isT : Heap.IsTuple (Shared.heap ⟨hp, g, d, tk, os⟩) t items := ⟨_, ht, rfl, n, rfl⟩
    wp_walk using AutoSeq1.wpAny_loadPart' ht
    refine wpAny_stack_any fun st => wpAny_pure ?_
    split
    · rename_i c _ _ _ _ _
      cases (c == Value.type "enumerate")
      · wp_walk using AutoSeq1.wpAny_loadPart' ht, wpAny_pyIter_tuple isT
        exact ⟨_, rfl, r⟩
      · wp_walk using AutoSeq1.wpAny_loadPart' ht, wpAny_pyIter_tuple isT
        exact ⟨_, rfl, r⟩
    · wp_walk using AutoSeq1.wpAny_loadPart' ht, wpAny_pyIter_tuple isT
      exact ⟨_, rfl, r⟩
theorem call_enumT {prog : Program} {w : World} {A : Around} {E : Value → Shared → Prop} {s : Shared} {t : Addr} {items : Array Value} {Q : Value → Shared → Prop} (isT : s.heap.IsTuple t items)
    (k : ∀ g, IsEnum g (s.heap.objs.size + 1) s.heap.objs.size 0 .none → g.IsTupleIter s.heap.objs.size t 0 → (∀ b o, s.heap.get? b = some o → g.get? b = some o) → Q (.ref (s.heap.objs.size + 1)) { s with heap := g }) :
    wpAny (model prog w) A (call (.type "enumerate") [.ref t]) Q E s := by
  obtain ⟨⟨c, dct, dt, sl⟩, at_, hc, n, hd⟩ := isT
  obtain rfl : c = .type "tuple" := hc
  obtain rfl : dt = .seq items n := hd
  refine callType_new PySem.F.called_enumerate (by decide) (PySem.F.typeCall_enumerate_1 _) (PySem.F.newCall_enumerate_1 _) (fun obj => PySem.F.args_object_init_2 obj _) PySem.F.entry_enumerate_new (enumT_made t items n dct sl) ⟨at_, ?_⟩
  have size1 : (s.heap.push { cls := .type "tuple_iterator", data := .fields #[.ref t, .int 0 0] }).objs.size = s.heap.objs.size + 1 := Heap.size_push ..
  show _ ∧ _
  rw [size1]
  have en : IsEnum ((s.heap.push { cls := .type "tuple_iterator", data := .fields #[.ref t, .int 0 0] }).push { cls := .type "enumerate", data := .fields #[.none, .bool false, .ref s.heap.objs.size, rawInt 0, .none, .none] }) (s.heap.objs.size + 1) s.heap.objs.size 0 .none := by
    have z := Heap.get?_push_size (s.heap.push { cls := .type "tuple_iterator", data := .fields #[.ref t, .int 0 0] }) (o := { cls := .type "enumerate", data := .fields #[.none, .bool false, .ref s.heap.objs.size, rawInt 0, .none, .none] }) rfl
    rw [size1] at z
    exact z
  exact ⟨⟨_, en, rfl⟩, k _ en ⟨_, Heap.get?_push_of_some _ (Heap.get?_push_size _ rfl), rfl, rfl⟩ fun b o e => Heap.get?_push_of_some _ (Heap.get?_push_of_some _ e)⟩
/-- the tuple at a, each item in a new pair -/
def IteT (K : PySem.W.Frag) (a : Addr) : It :=
  ⟨fun i H => ∃ (xs : List V) (x : V), SqT K H a xs ∧ xs[i]? = some x, fun i H v H' => ∃ T x, v = .ref T ∧ H T = none ∧ H' = upd H T (.tup [.int (i : Nat), x]) ∧ ∀ xs, SqT K H a xs → xs[i]? = some x, fun i H => ∃ xs : List V, SqT K H a xs ∧ xs.length ≤ i⟩
theorem turn_enumT {P : Program} {w : World} {K : PySem.W.Frag} {elts : List Expr} {kk : Nat} {tpos : Pos} (a e it : Addr) :
    Turn P w K (.Tuple elts kk tpos) (IteT K a) [e, it] e (fun i h => (∃ old, IsEnum h e it ((i : Nat) : Int) old) ∧ h.IsTupleIter it a i ∧ e ≠ it ∧ e ≠ a ∧ a ≠ it) where
  mem := by simp
  obj := fun i h ⟨⟨old, en⟩, ⟨o, at_, _, dat⟩, _⟩ b hb => by
    rcases List.mem_cons.mp hb with z | z
    · rw [z]
      exact ⟨_, en, fun v q => nomatch q⟩
    · rw [List.mem_singleton.mp z]
      exact ⟨o, at_, fun v q => by rw [dat] at q; cases q⟩
  keep := fun i h h' ⟨⟨old, en⟩, ti, rest⟩ k => ⟨⟨old, k e (by simp) _ en⟩, ti.at fun o q => k it (by simp) o q, rest⟩
  item := by
    rintro X rfl rfl rfl calm i pins s σ H E I free ⟨⟨old, en⟩, ti, ne, nea, nai⟩ ⟨xs, x, hq, hx⟩
    obtain ⟨its, rv, p, _⟩ := I.tuple hq
    obtain ⟨u, hu, ru⟩ := rv.get hx
    have tp : s.heap.IsTuple a its.toArray := p
    have ilt : i < its.toArray.size := by
      have := (List.getElem?_eq_some_iff.mp hu).1
      simpa using this
    have elt : e < s.heap.objs.size := Heap.lt_size en
    have tlt : it < s.heap.objs.size := by
      obtain ⟨_, q, _⟩ := ti
      exact Heap.lt_size q
    refine wpAny_pyNext_enum_itemD (Draws.tuple (A := X.A.in1) (I.ok.hd calm) it a nai its.toArray) en ⟨ti, tp⟩ ilt ne (by simp [ne, nea]) fun x' g tk hx' eo st' hT sz kp => ?_
    have ex : x' = u := by
      have q : its.toArray[i]? = some u := by simpa using hu
      rw [q] at hx'
      exact (Option.some.inj hx').symm
    subst ex
    refine ⟨_, rfl, wpAny_letOwnedTupleGo_enum (s := { s with heap := g, toks := tk + 1 }) eo fun g2 en2 sb => ?_⟩
    have hT2 : g2.get? s.heap.objs.size = some { cls := .type "tuple", data := .seq #[.int i tk, x'] } := (sb.2 _ (Nat.ne_of_gt elt)).trans hT
    have new : ObjOk X.prog X.w (upd H s.heap.objs.size (.tup [.int (i : Nat), x])) g2 s.heap.objs.size (.tup [.int (i : Nat), x]) :=
      ⟨by show 2 ≤ sizeLine; decide, [.int i tk, x'], .cons ⟨_, rfl⟩ (.cons ru .nil), ⟨_, hT2, rfl, _, rfl⟩⟩
    have J : Inv X pins σ (upd H s.heap.objs.size (.tup [.int (i : Nat), x])) { s with heap := g2, toks := tk + 1 } :=
      I.turnedNew (ch := [e, it]) (fun b ob hb q => (sb.2 b (fun z => hb (by simp [z]))).trans (kp b ob (fun z => hb (by simp [z])) (fun z => hb (by simp [z])) q)) free (Nat.le_refl _) new
    refine ⟨.ref s.heap.objs.size, _, J, rfl, ⟨_, x, rfl, I.hok.fresh (Nat.le_refl _), rfl, fun ys hy => by rw [I.tuple_inj hy hq]; exact hx⟩, ⟨⟨x', ?_⟩, st'.1.at fun o q => (sb.2 it (Ne.symm ne)).trans q, ne, nea, nai⟩, fun b hb => ?_⟩
    · rw [show ((i + 1 : Nat) : Int) = (i : Int) + 1 by omega]
      exact en2
    · have lt : b < s.heap.objs.size := by
        rcases List.mem_cons.mp hb with z | z
        · rw [z]
          exact elt
        · rw [List.mem_singleton.mp z]
          exact tlt
      rw [upd_ne (Nat.ne_of_lt lt)]
      exact (free b hb).1
  done := by
    rintro X rfl rfl rfl calm i pins s σ H E I free ⟨⟨old, en⟩, ti, ne, nea, nai⟩ ⟨xs, hq, hx⟩
    obtain ⟨its, rv, p, _⟩ := I.tuple hq
    obtain ⟨f0, f1, f2, f3, f4, f5⟩ := free it (by simp)
    have tp : s.heap.IsTuple a its.toArray := p
    have len := rv.length
    have past : its.toArray[i]? = none := by simp; omega
    have kind : s.TypeIs (.ref e) "enumerate" := ⟨_, en, rfl⟩
    have stop : wpAny (model X.prog X.w) X.A.in1 (Builtin.SmallTypes.nextOf (.ref it)) (fun _ _ => False) (fun x s' => ∃ g, x = x ∧ s' = { s with heap := g } ∧ Heap.ExtBut it s.heap g ∧ ∃ e', x = .ref e' ∧ ∃ o, g.get? e' = some o ∧ o.cls = .type "StopIteration") s :=
      wpAny_nextOf_tuple_end (I.ok.hd calm) ti tp past fun g e' eb ⟨o, q1, q2⟩ => ⟨g, rfl, rfl, eb, e', rfl, o, q1, q2⟩
    unfold pyNext
    refine wpAny_bind (wpAny_attempt (wpAny_callSpecial?_slot (name := Str.ofString "__next__") kind PySem.F.slot_enumerate_next (wpAny_call_entry PySem.F.slot_enumerate_next kind PySem.F.entry_enumerate_next ?_ (PySem.F.args_enumerate_next_1 _))))
    show wpAny _ _ (field (.ref e) 2 >>= _) _ _ _
    refine wpAny_bind (wpAny_field en rfl (x := .ref it) rfl (wpAny_bind (wpAny_mono stop (fun _ _ z => z.elim) ?_)))
    rintro x s' ⟨g, _, rfl, eb, e', rfl, o, q1, q2⟩
    refine wpAny_bind (wpAny_isInstance (T := "StopIteration") (b := true) ⟨o, q1, q2⟩ isSubtype_stop ?_)
    exact wpAny_pure ⟨rfl, I.turned (t' := s.toks) (fun b o hb q => eb b o hb q) f0 f1 f3 f4 f5⟩
  self := fun A i s Q E ⟨⟨_, en⟩, _⟩ h => wpAny_pyIter_enum en h
def iEnumT (K : PySem.W.Frag) (ta : TA) : TI := fun σ H R => ta σ H fun vs H1 => ∃ a, vs = [.ref a] ∧ ((∃ xs, SqL K H1 a xs) ∧ R (Ite K a) H1 ∨ (∃ xs, SqT K H1 a xs) ∧ R (IteT K a) H1)
/-- for i, x in enumerate(e), e a list or a tuple -/
theorem pi_enumT {X : Cx} {e : Expr} {ta : TA} {p pos tpos : Pos} {elts : List Expr} {kk : Nat} (hg : Gl X "enumerate") (hm : X.mg "enumerate" = none) (ha : PA X [e] ta) (hs : starEach [e] X.env = [(false, eval e X.env)] := by rfl) :
    PI X (.Tuple elts kk tpos) (.Call (.Name "enumerate" p) [e] [] pos) (iEnumT X.K ta) := by
  refine ⟨fun pins s σ H R I h => Call_ (ld_blt I hg hm boot_enumerate (PyProof.Rows.callWith_type1 (thn (ha.run pos pins s σ H _ I h) fun us s1 ⟨vs, H1, I1, r1, a, ev, q⟩ => ?_) hs rfl))⟩
  subst ev
  obtain ⟨u, rfl, rfl⟩ := vals1 r1
  have below : ∀ b ∈ [s1.heap.objs.size + 1, s1.heap.objs.size], FpOk X pins H1 b := fun b hb => by
    have le : s1.heap.objs.size ≤ b := by
      rcases List.mem_cons.mp hb with z | z
      · omega
      · rw [List.mem_singleton.mp z]
        exact Nat.le_refl _
    exact I1.fpOk le (I1.hok.fresh le)
  rcases q with ⟨⟨xs, hq⟩, q⟩ | ⟨⟨xs, hq⟩, q⟩
  · obtain ⟨its, rv, pl, _⟩ := I1.list hq
    refine call_enumerate_list pl.isList fun g en ti _ kp => wpAny_pyIter_enum en ?_
    exact ⟨_, [s1.heap.objs.size + 1, s1.heap.objs.size], _, _, H1, rfl, I1.kept (t' := s1.toks) kp, turn_enum a _ _, ⟨⟨.none, en⟩, ti, Nat.succ_ne_self _⟩, below, q⟩
  · obtain ⟨its, rv, pl, _⟩ := I1.tuple hq
    have tp : s1.heap.IsTuple a its.toArray := pl
    have alt : a < s1.heap.objs.size := by
      obtain ⟨o, q, _⟩ := id tp
      exact Heap.lt_size q
    refine call_enumT tp fun g en ti kp => wpAny_pyIter_enum en ?_
    exact ⟨_, [s1.heap.objs.size + 1, s1.heap.objs.size], _, _, H1, rfl, I1.kept (t' := s1.toks) kp, turn_enumT a _ _, ⟨⟨.none, en⟩, ti, Nat.succ_ne_self _, Nat.ne_of_gt (Nat.lt_succ_of_lt alt), Nat.ne_of_lt alt⟩, below, q⟩
end Mz

set_option Elab.async false
set_option linter.all false
set_option maxRecDepth 100000
set_option maxHeartbeats 4000000
/-! dicts from (int, (ints)) to ints -/
namespace Mz
open PySem PySem.Spec PyProof.Rows L2
abbrev PK := Int × List Int
def nk (p : PK) : NestedKey := .tup [.num p.1, .tup (p.2.map .num)]
theorem nums_inj : ∀ {a b : List Int}, a.map NestedKey.num = b.map NestedKey.num → a = b
  | [], [], _ => rfl
  | [], _ :: _, h => by simp at h
  | _ :: _, [], h => by simp at h
  | x :: a, y :: b, h => by
    rw [List.map_cons, List.map_cons] at h
    injection h with h1 h2
    injection h1 with h1
    rw [h1, nums_inj h2]
theorem nk_inj {p q : PK} (h : nk p = nk q) : p = q := by
  unfold nk at h
  injection h with h
  injection h with h1 h2
  injection h1 with h1
  injection h2 with h2 _
  injection h2 with h2
  exact Prod.ext h1 (nums_inj h2)
abbrev Ent := PK × Addr × Value
def rawE (x : Ent) : NestedKey × Addr × Value := (nk x.1, x.2)
/-- such a dict, as its own object tells it -/
def NestO (P : Program) (w : World) (d : Addr) (xs : List Ent) : HO := .ext fun h => (d == sysModules) = false ∧ xs.length ≤ sizeLine ∧
  ∃ o es ep, h.get? d = some o ∧ o.ExactDict ∧ o.data = .dict es ep ∧ es.toList = (xs.map rawE).map (entryOfKey (nestedKind P w)) ∧ (xs.map (·.1)).Nodup
/-- the key p stands at a -/
def KeyAt (H : Hp) (a : Addr) (p : PK) : Prop := ∃ b, H a = some (.tup [.int p.1, .ref b]) ∧ H b = some (.tup (p.2.map V.int))
theorem KeyAt.same {H H' : Hp} {a : Addr} {p : PK} (k : KeyAt H a p) (s : Same H H') : KeyAt H' a p := let ⟨b, h1, h2⟩ := k; ⟨b, s _ _ h1, s _ _ h2⟩
theorem nums_all {h : Heap} : ∀ {ns : List Int} {its : List Value}, Vals (ns.map V.int) its → NestedAll h (ns.map .num) its
  | [], _, .nil => .nil
  | n :: ns, _, .cons r t => by
    obtain ⟨k, rfl⟩ := (show ∃ k, _ = Value.int n k from r)
    exact .cons (.int n k) (nums_all t)
theorem nums_depth : ∀ ns : List Int, NestedKey.depthAll (ns.map .num) ≤ 1
  | [] => by simp [NestedKey.depthAll]
  | n :: ns => by
    have := nums_depth ns
    simp [NestedKey.depthAll, NestedKey.depth]
    omega
section
variable {P : Program} {w : World} {H : Hp} {h : Heap} {d : Addr}
theorem key_nest (ok : HOk P w H h) {a : Addr} {p : PK} (k : KeyAt H a p) : (nestedKind P w).is h (nk p) a := by
  obtain ⟨b, h1, h2⟩ := k
  obtain ⟨_, its, rv, o, e1, e2, n, e3⟩ := (show ObjOk P w H h a (.tup _) from ok a _ h1)
  obtain ⟨_, its2, rv2, o2, f1, f2, n2, f3⟩ := (show ObjOk P w H h b (.tup _) from ok b _ h2)
  refine ⟨.tup e1 e2 e3 ?_, ?_⟩
  · cases rv with
    | cons r t =>
      cases t with
      | cons r2 t =>
        cases t
        obtain ⟨k, rfl⟩ := (show ∃ k, _ = Value.int p.1 k from r)
        cases (show _ = Value.ref b from r2)
        refine .cons (.int _ _) (.cons (.tup f1 f2 f3 ?_) .nil)
        simpa using nums_all rv2
  · have := nums_depth p.2
    simp [nk, NestedKey.depth, NestedKey.depthAll]
    omega
theorem nest_nodup {xs : List Ent} (h : (xs.map (·.1)).Nodup) : ((xs.map rawE).map (·.1)).Nodup := by
  have e : (xs.map rawE).map (·.1) = (xs.map (·.1)).map nk := by
    rw [List.map_map, List.map_map]
    rfl
  rw [e]
  exact List.Pairwise.map _ (fun a b n z => n (nk_inj z)) h
theorem nest_of (ok : HOk P w H h) {xs : List Ent} (e : H d = some (NestO P w d xs)) (ks : ∀ x ∈ xs, KeyAt H x.2.1 x.1) : (d == sysModules) = false ∧ xs.length ≤ sizeLine ∧ h.DictOfH (nestedKind P w) d (xs.map rawE) := by
  obtain ⟨⟨a, b, o, es, ep, h1, h2, h3, h4, h5⟩, _⟩ := (show ObjOk P w H h d (NestO P w d xs) from ok d _ e)
  refine ⟨a, b, o, es, ep, h1, h2, h3, h4, fun x hx => ?_, nest_nodup h5⟩
  obtain ⟨y, hy, rfl⟩ := List.mem_map.mp hx
  exact key_nest ok (ks y hy)
theorem nest_ok {xs : List Ent} (hd : (d == sysModules) = false) (z : xs.length ≤ sizeLine) (n : (xs.map (·.1)).Nodup) (D : h.DictOfH (nestedKind P w) d (xs.map rawE)) : ObjOk P w H h d (NestO P w d xs) := by
  obtain ⟨o, es, ep, h1, h2, h3, h4, _, _⟩ := D
  refine ⟨⟨hd, z, o, es, ep, h1, h2, h3, h4, n⟩, ⟨o, h1⟩, fun g1 g2 ⟨a, b, o1, es1, ep1, k1, k2, k3, k4, k5⟩ kp => ⟨a, b, o1, es1, ep1, kp _ k1, k2, k3, k4, k5⟩⟩
end
/-- the dict's content, key by key -/
structure NestD (P : Program) (w : World) (H : Hp) (d : Addr) (kvs : List (PK × Int)) : Prop where
  ex : ∃ xs : List Ent, H d = some (NestO P w d xs) ∧ (∀ x ∈ xs, KeyAt H x.2.1 x.1) ∧ Paired (fun (kv : PK × Int) x => kv.1 = x.1 ∧ ∃ t, x.2.2 = Value.int kv.2 t) kvs xs
def findK (kvs : List (PK × Int)) (p : PK) : Option Int := (kvs.find? fun kv => decide (kv.1 = p)).map (·.2)
theorem findK_at {p : PK} : ∀ {kvs : List (PK × Int)} {xs : List Ent}, Paired (fun (kv : PK × Int) x => kv.1 = x.1 ∧ ∃ t, x.2.2 = Value.int kv.2 t) kvs xs →
    (∀ v, findK kvs p = some v → ∃ a t, atKey (xs.map rawE) (nk p) = some (a, Value.int v t)) ∧ (findK kvs p = none → atKey (xs.map rawE) (nk p) = none)
  | [], [], _ => ⟨fun v h => (by cases h), fun _ => rfl⟩
  | kv :: kvs, x :: xs, .cons r t => by
    obtain ⟨ih1, ih2⟩ := findK_at (p := p) t
    obtain ⟨r1, k, r2⟩ := r
    by_cases c : kv.1 = p
    · have e1 : findK (kv :: kvs) p = some kv.2 := by simp [findK, List.find?_cons, c]
      rw [e1]
      refine ⟨fun v hv => ?_, fun hv => (by cases hv)⟩
      cases hv
      refine ⟨x.2.1, k, ?_⟩
      have e2 : (rawE x).1 = nk p := by
        show nk x.1 = nk p
        rw [← r1, c]
      unfold atKey
      rw [List.map_cons, List.find?_cons, decide_eq_true e2]
      show some (x.2.1, x.2.2) = _
      rw [r2]
    · have e1 : findK (kv :: kvs) p = findK kvs p := by simp [findK, List.find?_cons, c]
      have e2 : ¬ (rawE x).1 = nk p := fun z => c (r1.trans (nk_inj z))
      have e3 : atKey ((x :: xs).map rawE) (nk p) = atKey (xs.map rawE) (nk p) := by
        unfold atKey
        rw [List.map_cons, List.find?_cons, decide_eq_false e2]
      rw [e1, e3]
      exact ⟨ih1, ih2⟩
section
variable {P : Program} {w : World} {H H' : Hp} {d : Addr} {kvs : List (PK × Int)}
theorem NestD.same (n : NestD P w H d kvs) (s : Same H H') : NestD P w H' d kvs := by
  obtain ⟨xs, e, ks, r⟩ := n.ex
  exact ⟨xs, s _ _ e, fun x hx => (ks x hx).same s, r⟩
theorem NestD.new (h : H d = none) : NestD P w (upd H d (NestO P w d [])) d [] := ⟨[], upd_same, fun x hx => absurd hx (by simp), .nil⟩
theorem NestD.len (n : NestD P w H d kvs) : ∃ xs : List Ent, xs.length = kvs.length ∧ H d = some (NestO P w d xs) := by
  obtain ⟨xs, e, _, r⟩ := n.ex
  exact ⟨xs, (Paired.length r).symm, e⟩
end
/-- d[key] -/
theorem nest_get {X : Cx} {pins : List (Addr × Obj)} {σ : L2.St} {H : Hp} {s : Shared} {A : Around} {E : Value → Shared → Prop} {d a : Addr} {kvs : List (PK × Int)} {p : PK} {v : Int} {Q : Value → Shared → Prop} (hu : A.units + 10 < cLine)
    (I : Inv X pins σ H s) (n : NestD X.prog X.w H d kvs) (ka : KeyAt H a p) (f : findK kvs p = some v) (q : ∀ u s', Inv X pins σ H s' → RelV (.int v) u → Q u s') : wpAny (model X.prog X.w) A (getItem (.ref d) (.ref a)) Q E s := by
  obtain ⟨xs, e, ks, r⟩ := n.ex
  obtain ⟨_, _, D⟩ := nest_of I.hok e ks
  obtain ⟨b, t, f2⟩ := (findK_at r).1 v f
  exact wpAny_getItem_heap (knd := nestedKind X.prog X.w) (show A.in1.units + 8 < cLine by show A.units + 1 + 8 < cLine; omega) (key_nest I.hok ka) D f2 (q _ _ (I.tok _) ⟨t, rfl⟩)
/-- d.setdefault(key, z) -/
theorem nest_set {X : Cx} {pins : List (Addr × Obj)} {σ : L2.St} {H : Hp} {s : Shared} {A : Around} {E : Value → Shared → Prop} {d a : Addr} {kvs : List (PK × Int)} {p : PK} {z : Int} {r : Value} {Q : Value → Shared → Prop} (hu : A.units + 10 < cLine) (hl : kvs.length < sizeLine)
    (I : Inv X pins σ H s) (n : NestD X.prog X.w H d kvs) (ka : KeyAt H a p) (rz : RelV (.int z) r) (old : ∀ v, findK kvs p = some v → ∀ u s', Inv X pins σ H s' → RelV (.int v) u → Q u s')
    (new : findK kvs p = none → ∀ xs' s', NestD X.prog X.w (upd H d (NestO X.prog X.w d xs')) d (kvs ++ [(p, z)]) → Inv X pins σ (upd H d (NestO X.prog X.w d xs')) s' → Q r s') : wpAny (model X.prog X.w) A (call (.builtin "dict.setdefault") [.ref d, .ref a, r]) Q E s := by
  obtain ⟨xs, e, ks, rel⟩ := n.ex
  obtain ⟨hd, hz, D⟩ := nest_of I.hok e ks
  have hlx : xs.length = kvs.length := (Paired.length rel).symm
  refine call_setdefault_heap (knd := nestedKind X.prog X.w) (hsz := by rw [List.length_map]; exact hz) (show A.in1.units + 8 < cLine by show A.units + 1 + 8 < cLine; omega) (key_nest I.hok ka) hd D (fun pr hp => ?_) (fun hn h' D' sb => ?_)
  · cases f : findK kvs p with
    | none =>
      rw [(findK_at rel).2 f] at hp
      cases hp
    | some v =>
      obtain ⟨b, t, f2⟩ := (findK_at rel).1 v f
      rw [f2] at hp
      cases hp
      exact old v f _ _ (I.tok _) ⟨t, rfl⟩
  · cases f : findK kvs p with
    | some v =>
      obtain ⟨b, t, f2⟩ := (findK_at rel).1 v f
      rw [f2] at hn
      cases hn
    | none =>
      obtain ⟨t, rfl⟩ := (show ∃ t, r = Value.int z t from rz)
      have e1 : storedH (xs.map rawE) (nk p) a (Value.int z t) = (xs ++ [(p, a, Value.int z t)]).map rawE := by
        rw [storedH_new hn, List.map_append]
        rfl
      rw [e1] at D'
      have nod : ((xs ++ [(p, a, Value.int z t)]).map (·.1)).Nodup := by
        obtain ⟨⟨_, _, _, _, _, _, _, _, _, k5⟩, _⟩ := (show ObjOk X.prog X.w H s.heap d (NestO X.prog X.w d xs) from I.hok d _ e)
        rw [List.map_append]
        refine List.nodup_append.mpr ⟨k5, by simp, fun y hy q hq => ?_⟩
        simp at hq
        rw [hq]
        rintro rfl
        obtain ⟨x, hx, e3⟩ := List.mem_map.mp hy
        obtain ⟨j, hj, e4⟩ := List.getElem_of_mem hx
        unfold atKey at hn
        rw [Option.map_eq_none_iff, List.find?_eq_none] at hn
        have := hn (rawE x) (List.mem_map.mpr ⟨x, hx, rfl⟩)
        simp [rawE, e3] at this
      have he : ∃ o, h'.get? d = some o := let ⟨o, _, _, k, _⟩ := D'; ⟨o, k⟩
      have hz2 : (xs ++ [(p, a, Value.int z t)]).length ≤ sizeLine := by
        rw [List.length_append, List.length_singleton]
        omega
      have nd : NestD X.prog X.w (upd H d (NestO X.prog X.w d (xs ++ [(p, a, Value.int z t)]))) d (kvs ++ [(p, z)]) := by
        have kt : ∀ {b : Addr} {q : PK}, KeyAt H b q → KeyAt (upd H d (NestO X.prog X.w d (xs ++ [(p, a, Value.int z t)]))) b q := fun {b q} ⟨c, k1, k2⟩ => by
          refine ⟨c, ?_, ?_⟩
          · rw [upd_ne fun z => ?_]
            · exact k1
            · rw [z, e] at k1
              cases k1
          · rw [upd_ne fun z => ?_]
            · exact k2
            · rw [z, e] at k2
              cases k2
        refine ⟨_, upd_same, fun x hx => ?_, ?_⟩
        · rcases List.mem_append.mp hx with q | q
          · exact kt (ks x q)
          · rw [List.mem_singleton.mp q]
            exact kt ka
        · have app : ∀ {l1 : List (PK × Int)} {l2 : List Ent}, Paired (fun (kv : PK × Int) (x : Ent) => kv.1 = x.1 ∧ ∃ t, x.2.2 = Value.int kv.2 t) l1 l2 → Paired (fun (kv : PK × Int) (x : Ent) => kv.1 = x.1 ∧ ∃ t, x.2.2 = Value.int kv.2 t) (l1 ++ [(p, z)]) (l2 ++ [(p, a, Value.int z t)]) := by
            intro l1 l2 hp
            induction hp with
            | nil => exact .cons ⟨rfl, t, rfl⟩ .nil
            | cons h _ ih => exact .cons h ih
          exact app rel
      exact new f _ _ nd (d_write (t' := s.toks + (nestedKind X.prog X.w).draws (nk p)) I (by rw [e]; exact True.intro) sb he (nest_ok hd hz2 nod D'))
/-! ### the rules: a dict of ints, or of such keys -/
def tNewKN (P : Program) (w : World) : TE := fun _ H Q => (∀ p, H p = none → Q (.ref p) (upd H p (.dK []))) ∨ ∀ p, H p = none → Q (.ref p) (upd H p (NestO P w p []))
theorem pe_dnewKN {X : Cx} {pos : Pos} : PE X (.Dict [] [] pos) (tNewKN X.prog X.w) := by
  refine ⟨fun pins s σ H Q I h => ?_⟩
  rcases h with h | h
  · exact pe_dnewK.run pins s σ H Q I h
  · have hb : sysModules < s.heap.objs.size := I.big
    have ok : ObjOk X.prog X.w (upd H s.heap.objs.size (NestO X.prog X.w s.heap.objs.size [])) (s.heap.push { cls := .type "dict", data := .dict #[] }) s.heap.objs.size (NestO X.prog X.w s.heap.objs.size []) :=
      nest_ok (beq_eq_false_iff_ne.mpr (Ne.symm (Nat.ne_of_lt hb))) (Nat.zero_le _) List.nodup_nil ⟨_, #[], 0, Heap.get?_push_size _ rfl, ⟨rfl, rfl, rfl⟩, rfl, rfl, fun x hx => absurd hx (by simp), List.nodup_nil⟩
    exact wpAny_Dict_empty ⟨.ref s.heap.objs.size, _, I.laid (a := s.heap.objs.size) (o := NestO X.prog X.w s.heap.objs.size []) (t' := s.toks) (fun _ _ q => Heap.get?_push_of_some _ q) (Nat.le_refl _) ok, rfl, h _ (I.hok.fresh (Nat.le_refl _))⟩
def tGetKN (P : Program) (w : World) (td ty : TE) : TE := fun σ H Q => td σ H fun x H1 => ty σ H1 fun y H2 => (∃ a v, x = .ref a ∧ DGet H2 a y (some v) ∧ Q v H2) ∨
  ∃ (d a : Addr) (kvs : List (PK × Int)) (p : PK) (v : Int), x = .ref d ∧ y = .ref a ∧ NestD P w H2 d kvs ∧ KeyAt H2 a p ∧ findK kvs p = some v ∧ Q (.int v) H2
theorem pe_dgetKN {X : Cx} {o i : Expr} {pos : Pos} {td ty : TE} (hu : X.A.units + 10 < cLine) (ho : PE X o td) (hi : PE X i ty) (hs : NoSl i) : PE X (.Subscript o i pos) (tGetKN X.prog X.w td ty) := by
  refine ⟨fun pins s σ H Q I h => ?_⟩
  refine subD_of PySem.F.slot_dict_getitem.lookup hs (thn (ho.run pins s σ H _ I h) fun u s1 ⟨x, H1, I1, rx, q1⟩ => thn (hi.run pins s1 σ H1 _ I1 q1) fun iv s2 ⟨y, H2, I2, ry, q2⟩ => ?_)
  rcases q2 with ⟨a, v, rfl, g, q⟩ | ⟨d, a, kvs, p, v, rfl, rfl, n, ka, f, q⟩
  · obtain rfl : u = Value.ref a := rx
    exact ⟨dict_typeIs I2 g, d_getItem (by omega) I2 g ry fun w' s3 I3 rw' => ⟨v, H2, I3, rw', q⟩⟩
  · obtain rfl : u = Value.ref d := rx
    obtain rfl : iv = Value.ref a := ry
    obtain ⟨xs, e, ks, _⟩ := n.ex
    exact ⟨(nest_of I2.hok e ks).2.2.typeIs, nest_get hu I2 n ka f fun w' s3 I3 rw' => ⟨_, H2, I3, rw', q⟩⟩
def IsKN (P : Program) (w : World) (H : Hp) (a : Addr) : Prop := (∃ kvs, H a = some (.dK kvs)) ∨ ∃ kvs, NestD P w H a kvs
def tSetKN (P : Program) (w : World) (td ty tx : TE) : TE := fun σ H Q => td σ H fun x H1 => ∃ a, x = .ref a ∧ IsKN P w H1 a ∧ ty σ H1 fun y H2 => tx σ H2 fun z H3 =>
  (∃ (kvs : List (L2.Key × V)) (k : L2.Key), H3 a = some (.dK kvs) ∧ y = kV k ∧ kvs.length < sizeLine ∧ (∀ v, valV kvs k = some v → Q v H3) ∧ (valV kvs k = none → Q z (upd H3 a (.dK (putK kvs k z))))) ∨
  ∃ (b : Addr) (kvs : List (PK × Int)) (p : PK) (n : Int), y = .ref b ∧ z = .int n ∧ NestD P w H3 a kvs ∧ KeyAt H3 b p ∧ kvs.length < sizeLine ∧ (∀ v, findK kvs p = some v → Q (.int v) H3) ∧
    (findK kvs p = none → ∀ xs', NestD P w (upd H3 a (NestO P w a xs')) a (kvs ++ [(p, n)]) → Q (.int n) (upd H3 a (NestO P w a xs')))
theorem pe_dsetKN {X : Cx} {o e f : Expr} {td ty tx : TE} {apos cpos : Pos} (hu : X.A.units + 10 < cLine) (ho : PE X o td) (he : PE X e ty) (hf : PE X f tx) (m : M2 X o "setdefault" apos e f cpos) : PE X (.Call (.Attribute o "setdefault" apos) [e, f] [] cpos) (tSetKN X.prog X.w td ty tx) := by
  refine ⟨fun pins s σ H Q I h => ?_⟩
  refine wpAny_Call_method m.base m.few m.line PySem.F.plainAttrs_dict PySem.F.slot_dict_setdefault PySem.F.type_dict_setdefault (thn (ho.run pins s σ H _ I h) fun u s1 ⟨x, H1, I1, rx, a, ex, d, q1⟩ => ?_)
  subst ex
  obtain rfl : u = Value.ref a := rx
  have both : s1.TypeIs (.ref a) "dict" ∧ ∀ b, Value.ref a = .ref b → ∃ ob, s1.heap.get? b = some ob ∧ ob.dict = none := by
    rcases d with ⟨kvs, e1⟩ | ⟨kvs, n⟩
    · obtain ⟨t1, t2, _⟩ := isD_at I1 (.inl ⟨kvs, .inl e1⟩)
      exact ⟨t1, t2⟩
    · obtain ⟨xs, e1, ks, _⟩ := n.ex
      obtain ⟨_, _, D⟩ := nest_of I1.hok e1 ks
      refine ⟨D.typeIs, fun b q => ?_⟩
      cases q
      obtain ⟨ob, _, _, k1, k2, _⟩ := D
      exact ⟨ob, k1, k2.2.1⟩
  refine ⟨both.1, both.2, ?_⟩
  rw [m.trees]
  refine Calls.callWith_builtin rfl (Calls.evalArgs_plain (Calls.spliced_cons (thn (he.run pins s1 σ H1 _ I1 q1) fun iv s2 ⟨y, H2, I2, ry, q2⟩ =>
    Calls.spliced_cons (thn (hf.run pins s2 σ H2 _ I2 q2) fun fv s3 ⟨z, H3, I3, rz, q3⟩ => Calls.spliced_nil ?_))))
  rcases q3 with ⟨kvs, k, ea, rfl, hl, q3, q4⟩ | ⟨b, kvs, p, n, rfl, rfl, nd, ka, hl, q3, q4⟩
  · exact d_setd I3 ea ry rz hl (fun v hv w' s4 I4 rw' => ⟨v, _, I4, rw', q3 v hv⟩) fun hn w' s4 I4 rw' => ⟨z, _, I4, rw', q4 hn⟩
  · obtain rfl : iv = Value.ref b := ry
    exact nest_set hu hl I3 nd ka rz (fun v hv w' s4 I4 rw' => ⟨_, _, I4, rw', q3 v hv⟩) fun hn xs' s4 n4 I4 => ⟨.int n, _, I4, rz, q4 hn xs' n4⟩
end Mz
namespace Mz
open PySem PySem.Spec PyProof.Rows L2
theorem hu10 {k : Nat} {A : Around} (r : Room k A) : A.units + 10 < cLine := by
  have := r.un
  omega
theorem walk_enumT {K : PySem.W.Frag} {a : Addr} {xs : List V} : Walk (IteT K a) xs.length (fun H => SqT K H a xs) (YPair (fun i => some (.int (i : Nat))) (fun i => xs[i]?)) :=
  ⟨fun i H hi q => ⟨xs, xs[i], q, List.getElem?_eq_getElem hi⟩, fun H q => ⟨xs, q, Nat.le_refl _⟩, fun i H v H' _ q ⟨T, x, h1, h2, h3, h4⟩ => ⟨T, .int (i : Nat), x, h1, h2, h3, rfl, h4 xs q⟩⟩
/-- the first place of each -/
def fi {α : Type} [DecidableEq α] (l : List α) (x : α) : Int := (l.findIdx fun y => decide (y = x) : Nat)
theorem fi_new {α : Type} [DecidableEq α] {l : List α} {i : Nat} {x : α} (h : l[i]? = some x) (n : x ∉ l.take i) : fi l x = i := by
  obtain ⟨lt, e⟩ := List.getElem?_eq_some_iff.mp h
  unfold fi
  have : l.findIdx (fun y => decide (y = x)) = i := by
    rw [List.findIdx_eq lt]
    refine ⟨decide_eq_true e, fun j hj => decide_eq_false fun z => n ?_⟩
    rw [← z]
    exact List.mem_take_iff_getElem.mpr ⟨j, by omega, rfl⟩
  rw [this]
theorem findK_snoc {kvs : List (PK × Int)} {p : PK} {z : Int} (n : findK kvs p = none) (q : PK) : findK (kvs ++ [(p, z)]) q = if q = p then some z else findK kvs q := by
  unfold findK at *
  rw [List.find?_append]
  by_cases c : q = p
  · subst c
    rw [Option.map_eq_none_iff] at n
    rw [n, if_pos rfl]
    simp
  · rw [if_neg c]
    have : List.find? (fun kv : PK × Int => decide (kv.1 = q)) [(p, z)] = none := by
      rw [List.find?_cons, decide_eq_false (show ¬ p = q from fun e => c e.symm)]
      rfl
    rw [this]
    simp
end Mz
namespace Mz
open PySem PySem.Spec PyProof.Rows L2
theorem pe_dgetKN2 {X : Cx} {P : Program} {w : World} {o i : Expr} {pos : Pos} {td ty : TE} (hP : X.prog = P) (hw : X.w = w) (hu : X.A.units + 10 < cLine) (ho : PE X o td) (hi : PE X i ty) (hs : NoSl i) : PE X (.Subscript o i pos) (tGetKN P w td ty) := by
  subst hP hw
  exact pe_dgetKN hu ho hi hs
end Mz
namespace Mz
open PySem PySem.Spec PyProof.Rows L2
def iLT (K : PySem.W.Frag) (tl : TE) : TI := fun σ H R => tl σ H fun x H1 => ∃ a, x = .ref a ∧ ((∃ xs, SqL K H1 a xs) ∧ R (Itl K a) H1 ∨ (∃ xs, SqT K H1 a xs) ∧ R (Itt K a) H1)
/-- a list or a tuple -/
theorem pi_lt {X : Cx} {tg l : Expr} {tl : TE} (hl : PE X l tl) : PI X tg l (iLT X.K tl) := by
  refine ⟨fun pins s σ H R I h => thn (hl.run pins s σ H _ I h) fun v s1 ⟨x, H1, I1, r1, a, ex, q⟩ => ?_⟩
  subst ex
  obtain rfl : v = Value.ref a := r1
  have below : ∀ b ∈ [s1.heap.objs.size], FpOk X pins H1 b := fun b hb => by
    rw [List.mem_singleton.mp hb]
    exact I1.fpOk (Nat.le_refl _) (I1.hok.fresh (Nat.le_refl _))
  rcases q with ⟨⟨xs, hq⟩, q⟩ | ⟨⟨xs, hq⟩, q⟩
  · obtain ⟨its, rv, p, _⟩ := I1.list hq
    exact wpAny_pyIter_list p.isList ⟨s1.heap.objs.size, [s1.heap.objs.size], _, _, H1, rfl, I1.kept (t' := s1.toks) (fun b o e => Heap.get?_push_of_some _ e), turn_list a _, ⟨_, Heap.get?_push_size _ rfl, rfl, rfl⟩, below, q⟩
  · obtain ⟨its, rv, p, _⟩ := I1.tuple hq
    have tp : s1.heap.IsTuple a its.toArray := p
    exact wpAny_pyIter_tuple tp ⟨s1.heap.objs.size, [s1.heap.objs.size], _, _, H1, rfl, I1.kept (t' := s1.toks) (fun b o e => Heap.get?_push_of_some _ e), turn_tuple a _, ⟨_, Heap.get?_push_size _ rfl, rfl, rfl⟩, below, q⟩
end Mz
namespace Mz
open PySem PySem.Spec PyProof.Rows L2
theorem seqT {K : PySem.W.Frag} {H H' : Hp} {a : Addr} {xs : List V} (s : Same H H') (h : SqT K H a xs) : SqT K H' a xs := by
  rcases h with (h | ⟨o, h⟩) | h
  · exact .inl (.inl (s _ _ h))
  · exact .inl (.inr ⟨o, s _ _ h⟩)
  · exact .inr h
end Mz
namespace DT
open PySem PySem.Spec PyProof.Rows L2
theorem pget2 {α β : Type} {F : α → β → Prop} : ∀ {l₁ : List α} {l₂ : List β} {j : Nat} {x : α}, Paired F l₁ l₂ → l₁[j]? = some x → ∃ y, l₂[j]? = some y ∧ F x y
  | _, _, 0, _, .cons h _, e => by
    cases e
    exact ⟨_, rfl, h⟩
  | _, _, j + 1, _, .cons _ t, e => pget2 (j := j) t e
  | _, _, 0, _, .nil, e => by cases e
  | _, _, j + 1, _, .nil, e => by cases e
end DT

set_option Elab.async false
set_option linter.all false
set_option maxRecDepth 100000
set_option maxHeartbeats 4000000
/-! equivalences that become finer: how often; pairs that are parted within t letters -/
namespace Mz
open PySem PySem.Spec PyProof.Rows L2
theorem filter_le {p q : Nat → Bool} : ∀ l : List Nat, (∀ x ∈ l, p x = true → q x = true) → (l.filter p).length ≤ (l.filter q).length
  | [], _ => Nat.le_refl _
  | a :: l, h => by
    have ih := filter_le l fun x hx => h x (List.mem_cons_of_mem _ hx)
    have ha := h a List.mem_cons_self
    rw [List.filter_cons, List.filter_cons]
    cases e1 : p a with
    | true =>
      rw [if_pos rfl, ha e1, if_pos rfl, List.length_cons, List.length_cons]
      omega
    | false =>
      rw [if_neg (by simp)]
      split
      · rw [List.length_cons]
        omega
      · exact ih
theorem filter_lt {p q : Nat → Bool} : ∀ l : List Nat, (∀ x ∈ l, p x = true → q x = true) → (∃ x ∈ l, q x = true ∧ p x = false) → (l.filter p).length < (l.filter q).length
  | [], _, h => by
    obtain ⟨x, hx, _⟩ := h
    exact absurd hx (by simp)
  | a :: l, h, ⟨x, hx, q1, q2⟩ => by
    have le := filter_le l fun x hx => h x (List.mem_cons_of_mem _ hx)
    have ha := h a List.mem_cons_self
    rw [List.filter_cons, List.filter_cons]
    rcases List.mem_cons.mp hx with e | e
    · rw [e] at q1 q2
      rw [q2, if_neg (by simp), q1, if_pos rfl, List.length_cons]
      omega
    · have ih := filter_lt l (fun x hx => h x (List.mem_cons_of_mem _ hx)) ⟨x, e, q1, q2⟩
      cases e1 : p a with
      | true =>
        rw [if_pos rfl, ha e1, if_pos rfl, List.length_cons, List.length_cons]
        omega
      | false =>
        rw [if_neg (by simp)]
        split
        · rw [List.length_cons]
          omega
        · exact ih
/-- an equivalence on the numbers below n -/
structure Eqv (n : Nat) (R : Nat → Nat → Prop) : Prop where
  refl : ∀ x, R x x
  symm : ∀ x y, R x y → R y x
  trans : ∀ x y z, R x y → R y z → R x z
def Least (R : Nat → Nat → Prop) (x : Nat) : Prop := ∀ y, y < x → ¬ R x y
open Classical in
noncomputable def cnt (n : Nat) (R : Nat → Nat → Prop) : Nat := ((List.range n).filter fun x => decide (Least R x)).length
theorem cnt_le (n : Nat) (R : Nat → Nat → Prop) : cnt n R ≤ n := by
  have := List.length_filter_le (fun x => @decide (Least R x) (Classical.propDecidable _)) (List.range n)
  rw [List.length_range] at this
  exact this
theorem least_of {R : Nat → Nat → Prop} {n : Nat} (E : Eqv n R) : ∀ x : Nat, ∃ r, r ≤ x ∧ R x r ∧ Least R r := by
  intro x
  induction x using Nat.strongRecOn with
  | ind x ih =>
    by_cases h : Least R x
    · exact ⟨x, Nat.le_refl _, E.refl x, h⟩
    · have : ∃ y, y < x ∧ R x y := Classical.byContradiction fun z => h fun y hy r => z ⟨y, hy, r⟩
      obtain ⟨y, hy, r⟩ := this
      obtain ⟨r', l, e, m⟩ := ih y hy
      exact ⟨r', by omega, E.trans _ _ _ r e, m⟩
open Classical in
/-- strictly finer: more classes -/
theorem cnt_lt {n : Nat} {R S : Nat → Nat → Prop} (ER : Eqv n R) (ES : Eqv n S) (fine : ∀ x y, S x y → R x y) (h : ∃ x y, x < n ∧ y < n ∧ R x y ∧ ¬ S x y) : cnt n R < cnt n S := by
  unfold cnt
  refine filter_lt _ (fun x _ e => ?_) ?_
  · exact decide_eq_true fun y hy s => of_decide_eq_true e y hy (fine _ _ s)
  · obtain ⟨x, y, hx, hy, r, s⟩ := h
    obtain ⟨a, la, ra, ma⟩ := least_of ES x
    obtain ⟨b, lb, rb, mb⟩ := least_of ES y
    have ne : a ≠ b := fun z => by
      subst z
      exact s (ES.trans _ _ _ ra (ES.symm _ _ rb))
    have rab : R a b := ER.trans _ _ _ (ER.symm _ _ (fine _ _ ra)) (ER.trans _ _ _ r (fine _ _ rb))
    by_cases c : a < b
    · exact ⟨b, List.mem_range.mpr (by omega), decide_eq_true mb, decide_eq_false fun z => z a c (ER.symm _ _ rab)⟩
    · exact ⟨a, List.mem_range.mpr (by omega), decide_eq_true ma, decide_eq_false fun z => z b (by omega) rab⟩
open Classical in
theorem cnt_pos {n : Nat} (R : Nat → Nat → Prop) (h : 0 < n) : 0 < cnt n R := by
  unfold cnt
  refine List.length_pos_of_mem (a := 0) (List.mem_filter.mpr ⟨List.mem_range.mpr h, ?_⟩)
  exact decide_eq_true fun y hy => absurd hy (Nat.not_lt_zero _)
/-- d times finer: more than d numbers -/
theorem fine_few {n d : Nat} {R : Nat → Nat → Nat → Prop} (hn : 0 < n) (E : ∀ t, Eqv n (R t)) (fine : ∀ t x y, R (t + 1) x y → R t x y) (h : ∀ e, e < d → ∃ x y, x < n ∧ y < n ∧ R e x y ∧ ¬ R (e + 1) x y) : d + 1 ≤ n := by
  have key : ∀ e, e ≤ d → e + 1 ≤ cnt n (R e) := by
    intro e
    induction e with
    | zero => intro _; exact cnt_pos _ hn
    | succ e ih =>
      intro he
      have := ih (by omega)
      have := cnt_lt (E e) (E (e + 1)) (fine e) (h e (by omega))
      omega
  have := key d (Nat.le_refl _)
  have := cnt_le n (R d)
  omega
/-! ### parted within t letters -/
section
variable (M N : Mach)
def Dn (t : Nat) (p : Pr) : Prop := ∃ v, Lt M.ls v ∧ v.length ≤ t ∧ Bad M N (runP M N p v)
/-- d letters are needed -/
def IsD (d : Nat) (p : Pr) : Prop := Dn M N d p ∧ ∀ e, e < d → ¬ Dn M N e p
end
section
variable {M N : Mach}
theorem Dn.mono {t u : Nat} {p : Pr} (h : Dn M N t p) (l : t ≤ u) : Dn M N u p := by
  obtain ⟨v, a, b, c⟩ := h
  exact ⟨v, a, by omega, c⟩
theorem dn_zero {p : Pr} : Dn M N 0 p ↔ Bad M N p := by
  constructor
  · rintro ⟨v, _, l, b⟩
    have : v = [] := List.length_eq_zero_iff.mp (by omega)
    subst this
    exact b
  · intro b
    exact ⟨[], fun z hz => absurd hz (by simp), Nat.le_refl _, b⟩
theorem dn_succ {t : Nat} {p : Pr} : Dn M N (t + 1) p ↔ Bad M N p ∨ ∃ a, 0 ≤ a ∧ a < M.ls ∧ Dn M N t (stepP M N p a) := by
  constructor
  · rintro ⟨v, h, l, b⟩
    cases v with
    | nil => exact .inl b
    | cons a v =>
      refine .inr ⟨a, (h a List.mem_cons_self).1, (h a List.mem_cons_self).2, v, fun z hz => h z (List.mem_cons_of_mem _ hz), ?_, b⟩
      rw [List.length_cons] at l
      omega
  · rintro (b | ⟨a, h0, h1, v, h, l, b⟩)
    · exact (dn_zero.mpr b).mono (Nat.zero_le _)
    · refine ⟨a :: v, fun z hz => ?_, by rw [List.length_cons]; omega, b⟩
      rcases List.mem_cons.mp hz with e | e
      · rw [e]
        exact ⟨h0, h1⟩
      · exact h z e
theorem isd_of {t : Nat} {p : Pr} (h : Dn M N t p) : ∃ d, d ≤ t ∧ IsD M N d p := by
  induction t with
  | zero => exact ⟨0, Nat.le_refl _, h, fun e he => absurd he (Nat.not_lt_zero _)⟩
  | succ t ih =>
    by_cases c : Dn M N t p
    · obtain ⟨d, l, i⟩ := ih c
      exact ⟨d, by omega, i⟩
    · exact ⟨t + 1, Nat.le_refl _, h, fun e he z => c (z.mono (by omega))⟩
theorem IsD.uniq {d e : Nat} {p : Pr} (a : IsD M N d p) (b : IsD M N e p) : d = e := by
  by_cases h : d < e
  · exact absurd a.1 (b.2 d h)
  · by_cases h2 : e < d
    · exact absurd b.1 (a.2 e h2)
    · omega
/-- the next pair needs one letter less -/
theorem IsD.down (k : Kin M N) {d : Nat} {p : Pr} (hp : InP M N p) (h : IsD M N (d + 1) p) : ∃ a, 0 ≤ a ∧ a < M.ls ∧ IsD M N d (stepP M N p a) := by
  rcases dn_succ.mp h.1 with b | ⟨a, h0, h1, q⟩
  · exact absurd ((dn_zero.mpr b).mono (Nat.zero_le _)) (h.2 d (by omega))
  · refine ⟨a, h0, h1, q, fun e he z => ?_⟩
    exact h.2 (e + 1) (by omega) (dn_succ.mpr (.inr ⟨a, h0, h1, z⟩))
theorem isd_all (k : Kin M N) : ∀ {d : Nat} {p : Pr}, InP M N p → IsD M N d p → ∀ e, e ≤ d → ∃ q, InP M N q ∧ IsD M N e q
  | 0, p, hp, h, e, he => ⟨p, hp, by rw [show e = 0 by omega]; exact h⟩
  | d + 1, p, hp, h, e, he => by
    by_cases c : e = d + 1
    · exact ⟨p, hp, by rw [c]; exact h⟩
    · obtain ⟨a, h0, h1, q⟩ := h.down k hp
      exact isd_all k (k.step hp h0 h1) q e (by omega)
/-- no pair is new: no pair will be -/
theorem dn_stop (k : Kin M N) {t : Nat} (h : ∀ p, InP M N p → Dn M N (t + 1) p → Dn M N t p) : ∀ (v : List Int) (p : Pr), InP M N p → Lt M.ls v → Bad M N (runP M N p v) → Dn M N t p
  | [], p, hp, _, b => (dn_zero.mpr b).mono (Nat.zero_le _)
  | a :: v, p, hp, hv, b => by
    have ha := hv a List.mem_cons_self
    have := dn_stop k h v (stepP M N p a) (k.step hp ha.1 ha.2) (fun z hz => hv z (List.mem_cons_of_mem _ hz)) b
    exact h p hp (dn_succ.mpr (.inr ⟨a, ha.1, ha.2, this⟩))
/-! the outputs of both machines' states, behind words of less than t letters -/
/-- the output behind v from a state of M, or, behind these, of N -/
def outU (M N : Mach) (x : Nat) (v : List Int) : Int := if x < M.rows.length then M.out (M.run x v) else N.out (N.run (x - M.rows.length : Int) v)
theorem runP_pair (p : Pr) : ∀ v : List Int, runP M N p v = (M.run p.1 v, N.run p.2 v) := by
  intro v
  induction v using snoc_ind with
  | h0 => rfl
  | hs v a ih =>
    rw [runP_snoc, ih, run_snoc, run_snoc]
    rfl
theorem few_rounds (k : Kin M N) {d : Nat} {p : Pr} (hp : InP M N p) (h : IsD M N d p) : d + 2 ≤ M.rows.length + N.rows.length := by
  have s1 := k.gm.s1
  refine fine_few (n := M.rows.length + N.rows.length) (d := d + 1) (R := fun t x y => ∀ v, Lt M.ls v → v.length < t → outU M N x v = outU M N y v) (by omega) (fun t => ⟨fun x v _ _ => rfl, fun x y h v a b => (h v a b).symm, fun x y z h1 h2 v a b => (h1 v a b).trans (h2 v a b)⟩)
    (fun t x y h v a b => h v a (by omega)) fun e he => ?_
  obtain ⟨q, hq, i1, i2⟩ := isd_all k hp h e (by omega)
  obtain ⟨⟨a1, a2⟩, a3, a4⟩ := hq
  have ex : ∀ v, outU M N q.1.toNat v = M.out (M.run q.1 v) := fun v => by
    unfold outU
    rw [if_pos (by omega), show ((q.1.toNat : Nat) : Int) = q.1 by omega]
  have ey : ∀ v, outU M N (q.2.toNat + M.rows.length) v = N.out (N.run q.2 v) := fun v => by
    unfold outU
    rw [if_neg (by omega), show (((q.2.toNat + M.rows.length : Nat) : Int) - (M.rows.length : Int)) = q.2 by omega]
  refine ⟨q.1.toNat, q.2.toNat + M.rows.length, by omega, by omega, fun v hv lv => ?_, fun z => ?_⟩
  · rw [ex, ey]
    refine Classical.byContradiction fun ne => ?_
    cases e with
    | zero => exact absurd lv (Nat.not_lt_zero _)
    | succ e => exact i2 e (by omega) ⟨v, hv, by omega, by rw [runP_pair]; exact ne⟩
  · obtain ⟨v, hv, lv, b⟩ := i1
    rw [runP_pair] at b
    have := z v hv (by omega)
    rw [ex, ey] at this
    exact b this
end
end Mz

set_option Elab.async false
set_option linter.all false
set_option maxRecDepth 100000
set_option maxHeartbeats 4000000
/-! the states of one machine that answer alike, by rounds -/
namespace Mz
open PySem PySem.Spec PyProof.Rows L2
/-- alike behind words of at most t letters -/
def RM (M : Mach) (t i j : Nat) : Prop := ∀ v, Lt M.ls v → v.length ≤ t → M.out (M.run i v) = M.out (M.run j v)
/-- alike behind all words -/
def EqM (M : Mach) (i j : Nat) : Prop := ∀ v, Lt M.ls v → M.out (M.run i v) = M.out (M.run j v)
theorem eqv_RM (M : Mach) (n t : Nat) : Eqv n (RM M t) := ⟨fun x v _ _ => rfl, fun x y h v a b => (h v a b).symm, fun x y z h1 h2 v a b => (h1 v a b).trans (h2 v a b)⟩
def LeastOf (R : Nat → Nat → Prop) (i g : Nat) : Prop := g ≤ i ∧ R i g ∧ ∀ j, j < g → ¬ R i j
/-- s tells the least of each class -/
def Rep (R : Nat → Nat → Prop) (n : Nat) (s : List Int) : Prop := s.length = n ∧ ∀ i, i < n → ∃ g : Nat, s[i]? = some (g : Int) ∧ LeastOf R i g
theorem rep_of {α : Type} [DecidableEq α] {l : List α} {R : Nat → Nat → Prop} (h : ∀ (i j : Nat) (x y : α), l[i]? = some x → l[j]? = some y → (x = y ↔ R i j)) : Rep R l.length (l.map (fi l)) := by
  refine ⟨List.length_map .., fun i hi => ?_⟩
  have ei := List.getElem?_eq_getElem hi
  have hex : ∃ y ∈ l, decide (y = l[i]) = true := ⟨l[i], List.getElem_mem hi, decide_eq_true rfl⟩
  have lt : l.findIdx (fun y => decide (y = l[i])) < l.length := List.findIdx_lt_length_of_exists hex
  have at_ : l[l.findIdx (fun y => decide (y = l[i]))] = l[i] := of_decide_eq_true (List.findIdx_getElem (w := lt))
  refine ⟨l.findIdx fun y => decide (y = l[i]), by rw [List.getElem?_map, ei]; rfl, ?_, ?_, fun j hj r => ?_⟩
  · refine Nat.le_of_not_lt fun c => ?_
    have := List.not_of_lt_findIdx c
    simp at this
  · exact (h i _ _ _ ei (List.getElem?_eq_getElem lt)).mp at_.symm
  · have jl : j < l.length := by omega
    have e := (h i j _ _ ei (List.getElem?_eq_getElem jl)).mpr r
    have := List.not_of_lt_findIdx hj
    simp at this
    exact this e.symm
theorem rep_eq {n : Nat} {R : Nat → Nat → Prop} {s : List Int} (E : Eqv n R) (r : Rep R n s) {i j : Nat} (hi : i < n) (hj : j < n) : s.getD i 0 = s.getD j 0 ↔ R i j := by
  obtain ⟨g, e1, l1, q1, m1⟩ := r.2 i hi
  obtain ⟨k, e2, l2, q2, m2⟩ := r.2 j hj
  rw [List.getD_eq_getElem?_getD, List.getD_eq_getElem?_getD, e1, e2]
  constructor
  · intro h
    have h : (g : Int) = k := h
    have h : g = k := by omega
    subst h
    exact E.trans _ _ _ q1 (E.symm _ _ q2)
  · intro h
    show (g : Int) = k
    have : g = k := by
      by_cases c : g < k
      · exact absurd (E.trans _ _ _ (E.symm _ _ h) q1) (m2 g c)
      · by_cases c2 : k < g
        · exact absurd (E.trans _ _ _ h q2) (m1 k c2)
        · omega
    rw [this]
theorem rep_uniq {n : Nat} {R : Nat → Nat → Prop} {s u : List Int} (a : Rep R n s) (b : Rep R n u) : s = u := by
  apply List.ext_getElem? 
  intro i
  by_cases h : i < n
  · obtain ⟨g, e1, l1, q1, m1⟩ := a.2 i h
    obtain ⟨k, e2, l2, q2, m2⟩ := b.2 i h
    have : g = k := by
      by_cases c : g < k
      · exact absurd q1 (m2 g c)
      · by_cases c2 : k < g
        · exact absurd q2 (m1 k c2)
        · omega
    rw [e1, e2, this]
  · rw [List.getElem?_eq_none (by rw [a.1]; omega), List.getElem?_eq_none (by rw [b.1]; omega)]
theorem rep_mono {n : Nat} {R S : Nat → Nat → Prop} {s : List Int} (h : ∀ i j, i < n → j < n → (R i j ↔ S i j)) (r : Rep R n s) : Rep S n s := by
  refine ⟨r.1, fun i hi => ?_⟩
  obtain ⟨g, e, l, q, m⟩ := r.2 i hi
  exact ⟨g, e, l, (h i g hi (by omega)).mp q, fun j hj z => m j hj ((h i j hi (by omega)).mpr z)⟩
/-! ### one round -/
theorem RM_zero {M : Mach} {i j : Nat} : RM M 0 i j ↔ M.out i = M.out j := by
  constructor
  · intro h
    exact h [] (fun z hz => absurd hz (by simp)) (Nat.le_refl _)
  · intro h v _ lv
    have : v = [] := List.length_eq_zero_iff.mp (by omega)
    subst this
    exact h
theorem RM_succ {M : Mach} (g : Good M) {t i j : Nat} (hi : M.St i) (hj : M.St j) : RM M (t + 1) i j ↔ RM M t i j ∧ ∀ a, 0 ≤ a → a < M.ls → RM M t (M.next i a).toNat (M.next j a).toNat := by
  have back : ∀ {k : Nat} {a : Int}, M.St k → 0 ≤ a → a < M.ls → (((M.next k a).toNat : Nat) : Int) = M.next k a := fun {k a} hk h0 h1 => by
    have := (g.step hk h0 h1).1.1
    omega
  constructor
  · intro h
    refine ⟨fun v a b => h v a (by omega), fun a h0 h1 v hv lv => ?_⟩
    rw [back hi h0 h1, back hj h0 h1]
    refine h (a :: v) (fun z hz => ?_) (by rw [List.length_cons]; omega)
    rcases List.mem_cons.mp hz with e | e
    · rw [e]
      exact ⟨h0, h1⟩
    · exact hv z e
  · rintro ⟨h1, h2⟩ v hv lv
    cases v with
    | nil => exact h1 [] hv (Nat.zero_le _)
    | cons a v =>
      have ha := hv a List.mem_cons_self
      have := h2 a ha.1 ha.2 v (fun z hz => hv z (List.mem_cons_of_mem _ hz)) (by rw [List.length_cons] at lv; omega)
      rw [back hi ha.1 ha.2, back hj ha.1 ha.2] at this
      exact this
/-- the marks of a round -/
def markOf (M : Mach) (s : List Int) (i : Nat) : PK := (s.getD i 0, (M.rows.getD i []).map fun z => s.getD z.toNat 0)
theorem mark_eq {M : Mach} (g : Good M) {s : List Int} {t : Nat} (r : Rep (RM M t) M.rows.length s) {i j : Nat} (hi : i < M.rows.length) (hj : j < M.rows.length) : markOf M s i = markOf M s j ↔ RM M (t + 1) i j := by
  have si : M.St i := ⟨by omega, by omega⟩
  have sj : M.St j := ⟨by omega, by omega⟩
  have E := eqv_RM M M.rows.length t
  have row : ∀ {k : Nat}, k < M.rows.length → M.rows.getD k [] ∈ M.rows := fun {k} hk => by
    rw [List.getD_eq_getElem?_getD, List.getElem?_eq_getElem hk]
    exact List.getElem_mem hk
  have nx : ∀ {k : Nat} (a : Nat), (a : Int) < M.ls → k < M.rows.length → ((M.rows.getD k []).map fun z => s.getD z.toNat 0)[a]? = some (s.getD (M.next k a).toNat 0) ∧ (M.next k a).toNat < M.rows.length := fun {k} a ha hk => by
    have hk2 : M.St k := ⟨by omega, by omega⟩
    obtain ⟨st, w, e1, e2⟩ := g.step hk2 (show (0 : Int) ≤ a by omega) ha
    have e3 : M.rows.getD k [] = w := by
      rw [List.getD_eq_getElem?_getD]
      rw [show ((k : Int)).toNat = k by omega] at e1
      rw [e1]
      rfl
    rw [show ((a : Int)).toNat = a by omega] at e2
    refine ⟨by rw [e3, List.getElem?_map, e2]; rfl, ?_⟩
    have := st.1
    have := st.2
    omega
  rw [RM_succ g si sj]
  unfold markOf
  constructor
  · intro h
    injection h with h1 h2
    refine ⟨(rep_eq E r hi hj).mp h1, fun a h0 h3 => ?_⟩
    have a1 : (a.toNat : Int) < M.ls := by omega
    have q1 := nx a.toNat a1 hi
    have q2 := nx a.toNat a1 hj
    rw [show ((a.toNat : Nat) : Int) = a by omega] at q1 q2
    rw [h2, q2.1] at q1
    exact (rep_eq E r q1.2 q2.2).mp (Option.some.inj q1.1).symm
  · rintro ⟨h1, h2⟩
    refine Prod.ext ((rep_eq E r hi hj).mpr h1) ?_
    have li := g.rl _ (row hi)
    have lj := g.rl _ (row hj)
    apply List.ext_getElem?
    intro a
    by_cases c : (a : Int) < M.ls
    · have q1 := nx a c hi
      have q2 := nx a c hj
      show ((M.rows.getD i []).map fun z => s.getD z.toNat 0)[a]? = ((M.rows.getD j []).map fun z => s.getD z.toNat 0)[a]?
      rw [q1.1, q2.1, (rep_eq E r q1.2 q2.2).mpr (h2 a (by omega) c)]
    · rw [List.getElem?_eq_none (by rw [List.length_map]; omega), List.getElem?_eq_none (by rw [List.length_map]; omega)]
/-- a round that brings nothing: all is told -/
theorem stop_all {M : Mach} (g : Good M) {t : Nat} (h : ∀ i j, i < M.rows.length → j < M.rows.length → RM M t i j → RM M (t + 1) i j) : ∀ (v : List Int) (i j : Nat), i < M.rows.length → j < M.rows.length → RM M t i j → Lt M.ls v → M.out (M.run i v) = M.out (M.run j v)
  | [], i, j, hi, hj, r, _ => r [] (fun z hz => absurd hz (by simp)) (Nat.zero_le _)
  | a :: v, i, j, hi, hj, r, hv => by
    have si : M.St i := ⟨by omega, by omega⟩
    have sj : M.St j := ⟨by omega, by omega⟩
    have ha := hv a List.mem_cons_self
    have n1 := (g.step si ha.1 ha.2).1
    have n2 := (g.step sj ha.1 ha.2).1
    have q := ((RM_succ g si sj).mp (h i j hi hj r)).2 a ha.1 ha.2
    have := stop_all g h v _ _ (by have := n1.1; have := n1.2; omega) (by have := n2.1; have := n2.2; omega) q fun z hz => hv z (List.mem_cons_of_mem _ hz)
    rw [show (((M.next i a).toNat : Nat) : Int) = M.next i a by have := n1.1; omega, show (((M.next j a).toNat : Nat) : Int) = M.next j a by have := n2.1; omega] at this
    exact this
end Mz

set_option Elab.async false
set_option linter.all false
set_option maxRecDepth 100000
set_option maxHeartbeats 4000000
/-! lists of lists of ints as data: in, not in, index; kinds of states -/
namespace Mz
open PySem PySem.Spec PyProof.Rows L2
theorem hu65 {k : Nat} {A : Around} (r : Room k A) : A.units + 65 < cLine := by
  have := r.un
  omega
def dLst (w : List Int) : PyData := .list (w.map .int)
def dLL (D : List (List Int)) : PyData := .list (D.map dLst)
theorem lay_lls : ∀ rs : List (List Int), PyData.canLayAll0 (rs.map dLst) = true
  | [] => by simp [PyData.canLayAll0]
  | w :: r => by
    have := lay_lls r
    have := lay_ints w
    simp [PyData.canLayAll0, dLst, PyData.canLay0, *]
theorem depth_lls : ∀ rs : List (List Int), PyData.depthAll (rs.map dLst) ≤ 2
  | [] => by simp [PyData.depthAll]
  | w :: r => by
    have := depth_lls r
    have := depthI w
    simp only [List.map_cons, PyData.depthAll]
    have e : PyData.depth (dLst w) ≤ PyData.depthAll (w.map PyData.int) + 1 := by
      unfold dLst
      simp only [PyData.depth]
      omega
    omega
theorem shaped_ll (D : List (List Int)) : SeqAt.shaped (dLL D) = true := by
  have h1 := depth_lls D
  have h3 : PyData.depth (dLL D) ≤ 64 := by
    unfold dLL
    simp only [PyData.depth]
    omega
  have h4 : PyData.canLay0 (dLL D) = true := by
    unfold dLL
    simp only [PyData.canLay0]
    exact lay_lls D
  show (PyData.canLay0 (dLL D) && decide (PyData.depth (dLL D) ≤ 64)) = true
  rw [h4, decide_eq_true h3]
  rfl
theorem shaped_l (w : List Int) : SeqAt.shaped (dLst w) = true := PySem.W.shaped_ints w
theorem eqv_l (a b : List Int) : PyData.eqv (dLst a) (dLst b) = decide (a = b) := eqv_lists a b
theorem any_ll (D : List (List Int)) (w : List Int) : ((D.map dLst).any fun z => PyData.eqv z (dLst w)) = decide (w ∈ D) := by
  rw [List.any_map, Bool.eq_iff_iff, List.any_eq_true, decide_eq_true_iff]
  constructor
  · rintro ⟨x, hx, h⟩
    have : PyData.eqv (dLst x) (dLst w) = true := h
    rw [eqv_l] at this
    rw [← of_decide_eq_true this]
    exact hx
  · intro h
    exact ⟨w, h, by show PyData.eqv (dLst w) (dLst w) = true; rw [eqv_l]; exact decide_eq_true rfl⟩
/-- a list of lists of ints -/
def LL (H : Hp) (as : List Addr) (D : List (List Int)) : Prop := as.length = D.length ∧ ∀ (i : Nat) (a : Addr) (w : List Int), as[i]? = some a → D[i]? = some w → H a = some (.lst (w.map V.int))
theorem LL.same {H H' : Hp} {as : List Addr} {D : List (List Int)} (h : LL H as D) (s : Same H H') : LL H' as D := ⟨h.1, fun i a w h1 h2 => s _ _ (h.2 i a w h1 h2)⟩
theorem dp_lls {K : PySem.W.Frag} {H : Hp} : ∀ {as : List Addr} {D : List (List Int)}, LL H as D → DpAll K H (as.map V.ref) (D.map dLst)
  | [], [], _ => .nil
  | a :: as, w :: D, h => .cons (.lst (SqL.of (h.2 0 a w rfl rfl)) (dp_ints w)) (dp_lls (as := as) (D := D) ⟨by have := h.1; simpa using this, fun i r w a b => h.2 (i + 1) r w a b⟩)
  | [], _ :: _, h => by have := h.1; simp at this
  | _ :: _, [], h => by have := h.1; simp at this
theorem dp_ll {K : PySem.W.Frag} {H : Hp} {p : Addr} {as : List Addr} {D : List (List Int)} (hp : H p = some (.lst (as.map V.ref))) (h : LL H as D) : Dp K H (.ref p) (dLL D) := .lst (SqL.of hp) (dp_lls h)
theorem dp_l {K : PySem.W.Frag} {H : Hp} {p : Addr} {w : List Int} (hp : H p = some (.lst (w.map V.int))) : Dp K H (.ref p) (dLst w) := .lst (SqL.of hp) (dp_ints w)
section
variable {K : PySem.W.Frag} {H : Hp} {p r : Addr} {as : List Addr} {D : List (List Int)} {w : List Int} {Q : VK}
theorem notin_ll (hr : H r = some (.lst (w.map V.int))) (hp : H p = some (.lst (as.map V.ref))) (h : LL H as D) (q : Q (.bl (!decide (w ∈ D))) H) : rNotInD K (.ref r) (.ref p) H Q :=
  ⟨dLst w, D.map dLst, dp_l hr, dp_ll hp h, shaped_l w, shaped_ll D, by rw [any_ll]; exact q⟩
theorem index_ll (hr : H r = some (.lst (w.map V.int))) (hp : H p = some (.lst (as.map V.ref))) (h : LL H as D) (m : w ∈ D) (q : Q (.int ((D.findIdx fun y => decide (y = w) : Nat))) H) : rIndexD K (.ref p) [.ref r] H Q := by
  have l : D.findIdx (fun y => decide (y = w)) < D.length := List.findIdx_lt_length_of_exists ⟨w, m, decide_eq_true rfl⟩
  have e : D[D.findIdx (fun y => decide (y = w))] = w := of_decide_eq_true (List.findIdx_getElem (w := l))
  refine ⟨p, .ref r, dLst w, D.map dLst, D.findIdx (fun y => decide (y = w)), dLst w, rfl, rfl, dp_ll hp h, dp_l hr, shaped_ll D, shaped_l w, ?_, by rw [eqv_l]; exact decide_eq_true rfl, fun k z hk hz => ?_, q⟩
  · rw [List.getElem?_map, List.getElem?_eq_getElem l, e]
    rfl
  · have h2 : ∃ x, D[k]? = some x ∧ z = dLst x := by
      rw [List.getElem?_map] at hz
      cases e2 : D[k]? with
      | none => rw [e2] at hz; cases hz
      | some x => rw [e2] at hz; exact ⟨x, rfl, (Option.some.inj hz).symm⟩
    obtain ⟨x, hx, rfl⟩ := h2
    rw [eqv_l]
    have h1 := List.not_of_lt_findIdx hk
    obtain ⟨lx, ex⟩ := List.getElem?_eq_some_iff.mp hx
    rw [ex] at h1
    simpa using h1
end
/-! ### kinds -/
/-- numbers that are equal just for related states -/
def Kinds (R : Nat → Nat → Prop) (n : Nat) (kd : List Int) : Prop := kd.length = n ∧ ∀ i j, i < n → j < n → (kd.getD i 0 = kd.getD j 0 ↔ R i j)
/-- the row of kinds of a state -/
def kRow (M : Mach) (kd : List Int) (i : Nat) : List Int := kd.getD i 0 :: (M.rows.getD i []).map fun z => kd.getD z.toNat 0
theorem kRow_iff {M : Mach} (g : Good M) {kd : List Int} {t : Nat} (k : Kinds (RM M t) M.rows.length kd) {i j : Nat} (hi : i < M.rows.length) (hj : j < M.rows.length) : kRow M kd i = kRow M kd j ↔ RM M (t + 1) i j := by
  have si : M.St (i : Int) := ⟨by omega, by omega⟩
  have sj : M.St (j : Int) := ⟨by omega, by omega⟩
  rw [RM_succ g si sj]
  unfold kRow
  obtain ⟨wi, a1, a2, a3⟩ := g.row si
  obtain ⟨wj, b1, b2, b3⟩ := g.row sj
  rw [show ((i : Int)).toNat = i by omega] at a1 a3
  rw [show ((j : Int)).toNat = j by omega] at b1 b3
  rw [a3, b3]
  have li := g.rl wi a2
  have lj := g.rl wj b2
  have nx : ∀ {s : Nat} {w : List Int} {a : Int}, M.rows.getD s [] = w → 0 ≤ a → ∀ (h : a.toNat < w.length), M.next (s : Int) a = w[a.toNat] := fun {s w a} e h0 h => by
    unfold Mach.next
    rw [show ((s : Int)).toNat = s by omega, e, List.getD_eq_getElem?_getD, List.getElem?_eq_getElem h]
    rfl
  have inb : ∀ {w : List Int}, w ∈ M.rows → ∀ {q : Nat} (h : q < w.length), (w[q]).toNat < M.rows.length := fun {w} hw {q} h => by
    have := g.rb w hw _ (List.getElem_mem h)
    omega
  constructor
  · intro h
    injection h with h1 h2
    refine ⟨(k.2 i j hi hj).mp h1, fun a a0 a1' => ?_⟩
    have la : a.toNat < wi.length := by omega
    have lb : a.toNat < wj.length := by omega
    have e : (wi.map fun z => kd.getD z.toNat 0)[a.toNat]? = (wj.map fun z => kd.getD z.toNat 0)[a.toNat]? := by rw [h2]
    rw [List.getElem?_map, List.getElem?_map, List.getElem?_eq_getElem la, List.getElem?_eq_getElem lb] at e
    have e := Option.some.inj e
    rw [nx a3 a0 la, nx b3 a0 lb]
    exact (k.2 _ _ (inb a2 la) (inb b2 lb)).mp e
  · rintro ⟨h1, h2⟩
    rw [(k.2 i j hi hj).mpr h1]
    congr 1
    apply List.ext_getElem
    · rw [List.length_map, List.length_map]
      omega
    · intro q q1 q2
      rw [List.length_map] at q1 q2
      rw [List.getElem_map, List.getElem_map]
      refine (k.2 _ _ (inb a2 q1) (inb b2 q2)).mpr ?_
      have := h2 (q : Int) (by omega) (by omega)
      rw [nx a3 (by omega) (show ((q : Int)).toNat < wi.length by omega), nx b3 (by omega) (show ((q : Int)).toNat < wj.length by omega)] at this
      exact this
theorem kinds_zero {M : Mach} (g : Good M) : Kinds (RM M 0) M.rows.length M.outs := ⟨g.ol, fun i j _ _ => by
  rw [RM_zero]
  rfl⟩
/-- behind as many rounds as states, the kinds are final -/
theorem kinds_all {M : Mach} (g : Good M) {kd : List Int} (k : Kinds (RM M M.rows.length) M.rows.length kd) : Kinds (EqM M) M.rows.length kd := by
  have n1 := g.s1
  have stop : ∃ e, e < M.rows.length ∧ ∀ i j, i < M.rows.length → j < M.rows.length → RM M e i j → RM M (e + 1) i j := by
    refine Classical.byContradiction fun n => ?_
    have := fine_few (n := M.rows.length) (d := M.rows.length) (R := RM M) (by omega) (eqv_RM M M.rows.length) (fun t x y h v a b => h v a (by omega)) (fun e he => ?_)
    · omega
    · refine Classical.byContradiction fun z => n ⟨e, he, fun i j hi hj r => Classical.byContradiction fun q => z ⟨i, j, hi, hj, r, q⟩⟩
  obtain ⟨e, he, st⟩ := stop
  refine ⟨k.1, fun i j hi hj => (k.2 i j hi hj).trans ⟨fun r v a => ?_, fun r v a _ => r v a⟩⟩
  exact stop_all g st v i j hi hj (fun v a b => r v a (by omega)) a
/-- the distinct ones, in the order of their first places -/
def dds (l : List (List Int)) : List (List Int) := l.foldl (fun D w => if w ∈ D then D else D ++ [w]) []
theorem dds_snoc (l : List (List Int)) (w : List Int) : dds (l ++ [w]) = if w ∈ dds l then dds l else dds l ++ [w] := by
  unfold dds
  rw [List.foldl_append]
  rfl
theorem dds_few : ∀ (n : Nat) (l : List (List Int)), l.length = n → (dds l).length ≤ n
  | 0, l, h => by
    rw [List.length_eq_zero_iff.mp h]
    exact Nat.le_refl 0
  | n + 1, l, h => by
    rcases List.eq_nil_or_concat l with e | ⟨l', w, e⟩
    · rw [e] at h
      cases h
    · rw [List.concat_eq_append] at e
      subst e
      rw [List.length_append] at h
      have := dds_few n l' (by simpa using h)
      rw [dds_snoc]
      split
      · omega
      · rw [List.length_append]
        show (dds l').length + 1 ≤ n + 1
        omega
end Mz

set_option Elab.async false
set_option linter.all false
set_option maxRecDepth 100000
set_option maxHeartbeats 4000000
/-! the order in which classes are met; machines that answer alike have the same least machine -/
namespace Mz
open PySem PySem.Spec PyProof.Rows L2
/-- the class of a state -/
def cls (G : List Int) (z : Int) : Int := G.getD z.toNat 0
def addC (o : List Int) (c : Int) : List Int := if c ∈ o then o else o ++ [c]
def ordStep (G row o : List Int) : List Int := row.foldl (fun o z => addC o (cls G z)) o
/-- the order when the places below k are done -/
def ordAt (M : Mach) (G : List Int) : Nat → List Int
  | 0 => [cls G 0]
  | k + 1 => if k < (ordAt M G k).length then ordStep G (M.rows.getD ((ordAt M G k).getD k 0).toNat []) (ordAt M G k) else ordAt M G k
/-- the least machine, as an order tells it -/
def leastBy (M : Mach) (G o : List Int) : Mach :=
  ⟨M.ls, M.os, o.map fun c => (M.rows.getD c.toNat []).map fun z => ((o.findIdx fun y => decide (y = cls G z) : Nat) : Int), o.map fun c => M.out c⟩
/-- states that answer alike -/
def Sim (M N : Mach) (x y : Int) : Prop := ∀ v, Lt M.ls v → M.out (M.run x v) = N.out (N.run y v)
section
variable {M N : Mach} {G F : List Int}
/-- a class's own state -/
def IsRp (M : Mach) (G : List Int) (c : Int) : Prop := M.St c ∧ cls G c = c
theorem cls_rp (g : Good M) (r : Rep (EqM M) M.rows.length G) {z : Int} (h : M.St z) : IsRp M G (cls G z) ∧ Sim M M z (cls G z) := by
  obtain ⟨c, e, l, q, m⟩ := r.2 z.toNat (by have := h.1; have := h.2; omega)
  have ez : ((z.toNat : Nat) : Int) = z := by have := h.1; omega
  have ec : cls G z = (c : Int) := by
    unfold cls
    rw [List.getD_eq_getElem?_getD, e]
    rfl
  have cl : c < M.rows.length := by have := h.1; have := h.2; omega
  obtain ⟨d, e2, l2, q2, m2⟩ := r.2 c cl
  have dc : d = c := by
    by_cases c3 : d < c
    · refine absurd (fun v hv => ?_) (m d c3)
      exact (q v hv).trans (q2 v hv)
    · omega
  refine ⟨⟨?_, ?_⟩, ?_⟩
  · rw [ec]
    exact ⟨by omega, by omega⟩
  · rw [ec]
    unfold cls
    rw [show ((c : Int)).toNat = c by omega, List.getD_eq_getElem?_getD, e2, dc]
    rfl
  · intro v hv
    have := q v hv
    rw [ez] at this
    rw [ec]
    exact this
theorem rp_uniq (g : Good M) (r : Rep (EqM M) M.rows.length G) {c d : Int} (hc : IsRp M G c) (hd : IsRp M G d) (s : Sim M M c d) : c = d := by
  have E : Eqv M.rows.length (EqM M) := ⟨fun x v _ => rfl, fun x y h v a => (h v a).symm, fun x y z h1 h2 v a => (h1 v a).trans (h2 v a)⟩
  have h1 := (rep_eq E r (i := c.toNat) (j := d.toNat) (by have := hc.1.1; have := hc.1.2; omega) (by have := hd.1.1; have := hd.1.2; omega)).mpr (fun v hv => by
    rw [show ((c.toNat : Nat) : Int) = c by have := hc.1.1; omega, show ((d.toNat : Nat) : Int) = d by have := hd.1.1; omega]
    exact s v hv)
  have e1 : G.getD c.toNat 0 = c := hc.2
  have e2 : G.getD d.toNat 0 = d := hd.2
  rw [e1, e2] at h1
  exact h1
theorem Sim.step (g : Good M) (ls : M.ls = N.ls) {x y a : Int} (s : Sim M N x y) (h0 : 0 ≤ a) (h1 : a < M.ls) : Sim M N (M.next x a) (N.next y a) := fun v hv =>
  s (a :: v) fun z hz => by
    rcases List.mem_cons.mp hz with e | e
    · rw [e]
      exact ⟨h0, h1⟩
    · exact hv z e
/-- orders of both, place by place alike -/
abbrev Both (M N : Mach) (G F o u : List Int) : Prop := Paired (fun c d => IsRp M G c ∧ IsRp N F d ∧ Sim M N c d) o u
theorem both_mem (ls : M.ls = N.ls) (gm : Good M) (gn : Good N) (rm : Rep (EqM M) M.rows.length G) (rn : Rep (EqM N) N.rows.length F) {c d : Int} (hc : IsRp M G c) (hd : IsRp N F d) (s : Sim M N c d) :
    ∀ {o u : List Int}, Both M N G F o u → (c ∈ o ↔ d ∈ u) ∧ o.findIdx (fun y => decide (y = c)) = u.findIdx (fun y => decide (y = d))
  | _, _, .nil => ⟨⟨fun z => absurd z (by simp), fun z => absurd z (by simp)⟩, rfl⟩
  | x :: o, y :: u, .cons ⟨h1, h2, h3⟩ t => by
    obtain ⟨i1, i2⟩ := both_mem ls gm gn rm rn hc hd s t
    have e : x = c ↔ y = d := by
      constructor
      · rintro rfl
        exact rp_uniq gn rn h2 hd fun v hv => ((h3 v (by rw [ls]; exact hv)).symm.trans (s v (by rw [ls]; exact hv)))
      · rintro rfl
        exact rp_uniq gm rm h1 hc fun v hv => (h3 v hv).trans (s v hv).symm
    refine ⟨by rw [List.mem_cons, List.mem_cons, i1, eq_comm, e, eq_comm (a := d)], ?_⟩
    rw [List.findIdx_cons, List.findIdx_cons, i2]
    by_cases q : x = c
    · rw [decide_eq_true q, decide_eq_true (e.mp q)]
    · rw [decide_eq_false q, decide_eq_false fun z => q (e.mpr z)]
theorem paired_app {α β : Type} {R : α → β → Prop} : ∀ {l1 : List α} {l2 : List β} {x : α} {y : β}, Paired R l1 l2 → R x y → Paired R (l1 ++ [x]) (l2 ++ [y])
  | _, _, _, _, .nil, h => .cons h .nil
  | _, _, _, _, .cons a t, h => .cons a (paired_app t h)
/-- rows of states that answer alike -/
theorem both_row (ls : M.ls = N.ls) (gm : Good M) (gn : Good N) (rm : Rep (EqM M) M.rows.length G) (rn : Rep (EqM N) N.rows.length F) :
    ∀ {w x : List Int}, Paired (fun z z' => M.St z ∧ N.St z' ∧ Sim M N z z') w x → ∀ {o u : List Int}, Both M N G F o u → Both M N G F (ordStep G w o) (ordStep F x u)
  | _, _, .nil, _, _, b => b
  | z :: w, z' :: x, .cons ⟨h1, h2, h3⟩ t, o, u, b => by
    obtain ⟨r1, s1⟩ := cls_rp gm rm h1
    obtain ⟨r2, s2⟩ := cls_rp gn rn h2
    have s : Sim M N (cls G z) (cls F z') := fun v hv => (s1 v hv).symm.trans ((h3 v hv).trans (s2 v (by rw [← ls]; exact hv)))
    obtain ⟨m1, _⟩ := both_mem ls gm gn rm rn r1 r2 s b
    refine both_row ls gm gn rm rn t (o := addC o (cls G z)) (u := addC u (cls F z')) ?_
    unfold addC
    by_cases c : cls G z ∈ o
    · rw [if_pos c, if_pos (m1.mp c)]
      exact b
    · rw [if_neg c, if_neg fun z => c (m1.mpr z)]
      exact paired_app b ⟨r1, r2, s⟩
theorem rows_sim (ls : M.ls = N.ls) (gm : Good M) (gn : Good N) {c d : Int} (hc : M.St c) (hd : N.St d) (s : Sim M N c d) : Paired (fun z z' => M.St z ∧ N.St z' ∧ Sim M N z z') (M.rows.getD c.toNat []) (N.rows.getD d.toNat []) := by
  obtain ⟨w, e1, e2, e3⟩ := gm.row hc
  obtain ⟨x, f1, f2, f3⟩ := gn.row hd
  rw [e3, f3]
  have lw := gm.rl w e2
  have lx := gn.rl x f2
  have key : ∀ (w x : List Int), w.length = x.length → (∀ i : Nat, i < w.length → ∃ p q, w[i]? = some p ∧ x[i]? = some q ∧ (M.St p ∧ N.St q ∧ Sim M N p q)) → Paired (fun z z' => M.St z ∧ N.St z' ∧ Sim M N z z') w x := by
    intro w
    induction w with
    | nil =>
      intro x l _
      cases x with
      | nil => exact .nil
      | cons _ _ => cases l
    | cons p w ih =>
      intro x l h
      cases x with
      | nil => cases l
      | cons q x =>
        obtain ⟨p', q', a, b, k⟩ := h 0 (by simp)
        cases a
        cases b
        exact .cons k (ih x (by simpa using l) fun i hi => h (i + 1) (by simpa using hi))
  refine key w x (by omega) fun i hi => ?_
  obtain ⟨st1, w1, a1, a2⟩ := gm.step hc (show (0 : Int) ≤ i by omega) (show (i : Int) < M.ls by omega)
  obtain ⟨st2, x1, b1, b2⟩ := gn.step hd (show (0 : Int) ≤ i by omega) (show (i : Int) < N.ls by omega)
  rw [e1] at a1
  cases a1
  rw [f1] at b1
  cases b1
  rw [show ((i : Int)).toNat = i by omega] at a2 b2
  exact ⟨_, _, a2, b2, st1, st2, s.step gm ls (by omega) (by omega)⟩
theorem paired_get {α β : Type} {R : α → β → Prop} : ∀ {l1 : List α} {l2 : List β} {i : Nat} {x : α}, Paired R l1 l2 → l1[i]? = some x → ∃ y, l2[i]? = some y ∧ R x y
  | _, _, 0, _, .cons h _, e => by
    cases e
    exact ⟨_, rfl, h⟩
  | _, _, i + 1, _, .cons _ t, e => paired_get (i := i) t e
  | _, _, 0, _, .nil, e => by cases e
  | _, _, i + 1, _, .nil, e => by cases e
/-- the orders of machines that answer alike go side by side -/
theorem both_ord (ls : M.ls = N.ls) (gm : Good M) (gn : Good N) (rm : Rep (EqM M) M.rows.length G) (rn : Rep (EqM N) N.rows.length F) (s : Sim M N 0 0) : ∀ k, Both M N G F (ordAt M G k) (ordAt N F k) := by
  intro k
  induction k with
  | zero =>
    obtain ⟨r1, s1⟩ := cls_rp gm rm gm.st0
    obtain ⟨r2, s2⟩ := cls_rp gn rn gn.st0
    exact .cons ⟨r1, r2, fun v hv => (s1 v hv).symm.trans ((s v hv).trans (s2 v (by rw [← ls]; exact hv)))⟩ .nil
  | succ k ih =>
    have len := Paired.length ih
    unfold ordAt
    by_cases c : k < (ordAt M G k).length
    · rw [if_pos c, if_pos (by omega)]
      have e := List.getElem?_eq_getElem c
      obtain ⟨y, e2, h1, h2, h3⟩ := paired_get ih e
      have g1 : (ordAt M G k).getD k 0 = (ordAt M G k)[k] := by
        rw [List.getD_eq_getElem?_getD, e]
        rfl
      have g2 : (ordAt N F k).getD k 0 = y := by
        rw [List.getD_eq_getElem?_getD, e2]
        rfl
      rw [g1, g2]
      exact both_row ls gm gn rm rn (rows_sim ls gm gn h1.1 h2.1 h3) ih
    · rw [if_neg c, if_neg (by omega)]
      exact ih
theorem paired_map {α β γ : Type} {R : α → β → Prop} {f : α → γ} {h : β → γ} : ∀ {l1 : List α} {l2 : List β}, Paired R l1 l2 → (∀ x y, R x y → f x = h y) → l1.map f = l2.map h
  | _, _, .nil, _ => rfl
  | _, _, .cons a t, k => by rw [List.map_cons, List.map_cons, k _ _ a, paired_map t k]
/-- machines that answer alike have the same least machine -/
theorem least_same (ls : M.ls = N.ls) (os : M.os = N.os) (gm : Good M) (gn : Good N) (rm : Rep (EqM M) M.rows.length G) (rn : Rep (EqM N) N.rows.length F) (s : Sim M N 0 0) (k : Nat) : leastBy M G (ordAt M G k) = leastBy N F (ordAt N F k) := by
  have b := both_ord ls gm gn rm rn s k
  unfold leastBy
  rw [ls, os]
  congr 1
  · refine paired_map b fun c d ⟨h1, h2, h3⟩ => paired_map (rows_sim ls gm gn h1.1 h2.1 h3) fun z z' ⟨q1, q2, q3⟩ => ?_
    obtain ⟨r1, s1⟩ := cls_rp gm rm q1
    obtain ⟨r2, s2⟩ := cls_rp gn rn q2
    have s' : Sim M N (cls G z) (cls F z') := fun v hv => (s1 v hv).symm.trans ((q3 v hv).trans (s2 v (by rw [← ls]; exact hv)))
    rw [(both_mem ls gm gn rm rn r1 r2 s' b).2]
  · exact paired_map b fun c d ⟨_, _, h3⟩ => h3 [] fun z hz => absurd hz (by simp)
end
end Mz
namespace Mz
open PySem PySem.Spec PyProof.Rows L2
section
variable {M : Mach} {G : List Int}
theorem addC_ok {o : List Int} {c : Int} (n : o.Nodup) : (addC o c).Nodup ∧ ∀ x, x ∈ addC o c ↔ x ∈ o ∨ x = c := by
  unfold addC
  by_cases h : c ∈ o
  · rw [if_pos h]
    exact ⟨n, fun x => ⟨.inl, fun z => z.elim id fun e => by rw [e]; exact h⟩⟩
  · rw [if_neg h]
    refine ⟨List.nodup_append.mpr ⟨n, by simp, fun a ha b hb e => ?_⟩, fun x => by rw [List.mem_append, List.mem_singleton]⟩
    rw [List.mem_singleton.mp hb] at e
    rw [e] at ha
    exact h ha
theorem ordStep_snoc (row : List Int) (z : Int) (o : List Int) : ordStep G (row ++ [z]) o = addC (ordStep G row o) (cls G z) := by
  unfold ordStep
  rw [List.foldl_append]
  rfl
theorem ordStep_ok (g : Good M) (r : Rep (EqM M) M.rows.length G) : ∀ {row o : List Int}, (∀ z ∈ row, M.St z) → o.Nodup → (∀ c ∈ o, IsRp M G c) → (ordStep G row o).Nodup ∧ (∀ c ∈ ordStep G row o, IsRp M G c) ∧ (∀ c ∈ o, c ∈ ordStep G row o) ∧ ∀ z ∈ row, cls G z ∈ ordStep G row o
  | [], o, _, n, k => ⟨n, k, fun _ h => h, fun z hz => absurd hz (by simp)⟩
  | z :: row, o, hz, n, k => by
    obtain ⟨a1, a2⟩ := addC_ok (c := cls G z) n
    obtain ⟨b1, b2, b3, b4⟩ := ordStep_ok g r (row := row) (o := addC o (cls G z)) (fun y hy => hz y (List.mem_cons_of_mem _ hy)) a1 fun c hc => by
      rcases (a2 c).mp hc with e | e
      · exact k c e
      · rw [e]
        exact (cls_rp g r (hz z List.mem_cons_self)).1
    refine ⟨b1, b2, fun c hc => b3 c ((a2 c).mpr (.inl hc)), fun y hy => ?_⟩
    rcases List.mem_cons.mp hy with e | e
    · rw [e]
      exact b3 _ ((a2 _).mpr (.inr rfl))
    · exact b4 y e
theorem row_st (g : Good M) {c : Int} (h : M.St c) : ∀ z ∈ M.rows.getD c.toNat [], M.St z := by
  obtain ⟨w, e1, e2, e3⟩ := g.row h
  rw [e3]
  exact fun z hz => g.rb w e2 z hz
theorem ord_ok (g : Good M) (r : Rep (EqM M) M.rows.length G) : ∀ k, (ordAt M G k).Nodup ∧ ∀ c ∈ ordAt M G k, IsRp M G c
  | 0 => ⟨by simp [ordAt], fun c hc => by rw [List.mem_singleton.mp hc]; exact (cls_rp g r g.st0).1⟩
  | k + 1 => by
    obtain ⟨n, h⟩ := ord_ok g r k
    unfold ordAt
    by_cases c : k < (ordAt M G k).length
    · rw [if_pos c]
      have e : (ordAt M G k).getD k 0 = (ordAt M G k)[k] := by
        rw [List.getD_eq_getElem?_getD, List.getElem?_eq_getElem c]
        rfl
      have q := ordStep_ok g r (row := M.rows.getD ((ordAt M G k).getD k 0).toNat []) (row_st g (by rw [e]; exact (h _ (List.getElem_mem c)).1)) n h
      exact ⟨q.1, q.2.1⟩
    · rw [if_neg c]
      exact ⟨n, h⟩
theorem ord_len (g : Good M) (r : Rep (EqM M) M.rows.length G) (k : Nat) : (ordAt M G k).length ≤ M.rows.length := by
  obtain ⟨n, h⟩ := ord_ok g r k
  have q := nodup_few M.rows.length ((ordAt M G k).map Int.toNat) ?_ ?_
  · rw [List.length_map] at q
    exact q
  · refine List.Pairwise.map _ ?_ (List.Pairwise.and_mem.mp n)
    rintro a b ⟨ha, hb, ne⟩ e
    have := (h a ha).1.1
    have := (h b hb).1.1
    exact ne (by omega)
  · intro x hx
    obtain ⟨c, hc, rfl⟩ := List.mem_map.mp hx
    have := (h c hc).1.1
    have := (h c hc).1.2
    omega
theorem ord_stop {k : Nat} (h : (ordAt M G k).length ≤ k) : ∀ j, k ≤ j → ordAt M G j = ordAt M G k := by
  intro j hj
  induction j with
  | zero => rw [show k = 0 by omega]
  | succ j ih =>
    by_cases c : k = j + 1
    · rw [c]
    · have e := ih (by omega)
      show (if j < (ordAt M G j).length then _ else ordAt M G j) = _
      rw [if_neg (by rw [e]; omega)]
      exact e
/-- when the place is the length, the order is whole -/
theorem ord_whole (g : Good M) (r : Rep (EqM M) M.rows.length G) {k : Nat} (h : (ordAt M G k).length ≤ k) : ordAt M G k = ordAt M G M.rows.length := by
  by_cases c : k ≤ M.rows.length
  · exact (ord_stop h _ c).symm
  · exact ord_stop (ord_len g r _) _ (by omega)
end
end Mz
namespace Mz
theorem ordStep_len {G : List Int} : ∀ (row o : List Int), (ordStep G row o).length ≤ o.length + row.length
  | [], o => Nat.le_refl _
  | z :: row, o => by
    have h := ordStep_len (G := G) row (addC o (cls G z))
    have : (addC o (cls G z)).length ≤ o.length + 1 := by
      unfold addC
      split
      · omega
      · rw [List.length_append, List.length_singleton]
        exact Nat.le_refl _
    rw [List.length_cons]
    show (ordStep G row (addC o (cls G z))).length ≤ _
    omega
end Mz
namespace Mz
open PySem PySem.Spec PyProof.Rows L2
/-- a dict comprehension over a walk -/
theorem dc_it {J : It} {n : Nat} {Gd : Hp → Prop} {Y : Nat → Hp → V → Hp → Prop} (wk : Walk J n Gd Y) {g : TG} {tt : TT} {tk tv : TE} {vs : List Nat} {σ : L2.St} {H1 : Hp} {D : Addr} {Qd : Hp → Prop} (Pv : Nat → Hp → Prop) (h0 : Pv 0 (upd H1 D (.dK []))) (hG : ∀ i H, i ≤ n → Pv i H → Gd H)
    (turn : ∀ i x H H', i < n → Pv i H → Y i H x H' → g x (wipe σ vs) H' fun σ2 H2 => wipe σ2 vs = wipe σ vs ∧ tt σ2 H2 fun b H3 =>
      if b = true then tk σ2 H3 fun y H4 => tv σ2 H4 fun z H5 => ∃ kvs k, y = kV k ∧ H5 D = some (.dK kvs) ∧ kvs.length < sizeLine ∧ Pv (i + 1) (upd H5 D (.dK (putK kvs k z))) else Pv (i + 1) H3) (last : ∀ H, Pv n H → Qd H) :
    ∃ W : Nat → Nat → Hp → Prop, (∃ m, W 0 m (upd H1 D (.dK []))) ∧ ∀ i m H, W i m H →
      (J.stop i H ∧ Qd H) ∨ (J.go i H ∧ ∃ Nx : Hp → Prop, (∀ H', Nx H' → ∃ m', m' < m ∧ W (i + 1) m' H') ∧ ∀ x H', J.yld i H x H' → g x (wipe σ vs) H' fun σ2 H2 => wipe σ2 vs = wipe σ vs ∧ tt σ2 H2 fun b H3 =>
        if b = true then tk σ2 H3 fun y H4 => tv σ2 H4 fun z H5 => ∃ kvs k, y = kV k ∧ H5 D = some (.dK kvs) ∧ kvs.length < sizeLine ∧ Nx (upd H5 D (.dK (putK kvs k z))) else Nx H3) := by
  refine ⟨fun i m H => m + i = n ∧ Pv i H, ⟨n, rfl, h0⟩, ?_⟩
  rintro i m H ⟨e, p⟩
  have q := hG i H (by omega) p
  cases m with
  | zero =>
    obtain rfl : i = n := by omega
    exact .inl ⟨wk.stops H q, last H p⟩
  | succ m => exact .inr ⟨wk.goes i H (by omega) q, Pv (i + 1), fun H' p' => ⟨m, by omega, by omega, p'⟩, fun x H' y => turn i x H H' (by omega) p (wk.yields i H x H' (by omega) q y)⟩
end Mz

set_option Elab.async false
set_option linter.all false
namespace Mz
open PySem PySem.Spec PyProof.Rows L2
section
variable {M N : Mach} {G F : List Int}
theorem addC_pre (o : List Int) (c : Int) : o <+: addC o c := by
  unfold addC
  split
  · exact List.prefix_refl _
  · exact List.prefix_append _ _
theorem ordStep_pre : ∀ (row o : List Int), o <+: ordStep G row o
  | [], o => List.prefix_refl _
  | z :: row, o => (addC_pre o (cls G z)).trans (ordStep_pre row (addC o (cls G z)))
theorem ord_pre1 (k : Nat) : ordAt M G k <+: ordAt M G (k + 1) := by
  show _ <+: (if k < (ordAt M G k).length then ordStep G (M.rows.getD ((ordAt M G k).getD k 0).toNat []) (ordAt M G k) else ordAt M G k)
  split
  · exact ordStep_pre _ _
  · exact List.prefix_refl _
theorem ord_pre (j : Nat) : ∀ d, ordAt M G j <+: ordAt M G (j + d)
  | 0 => List.prefix_refl _
  | d + 1 => (ord_pre j d).trans (ord_pre1 (j + d))
/-- what a class in the order leads to is in the order -/
theorem ord_closed (g : Good M) (r : Rep (EqM M) M.rows.length G) {c z : Int} (h : c ∈ ordAt M G M.rows.length) (hz : z ∈ M.rows.getD c.toNat []) : cls G z ∈ ordAt M G M.rows.length := by
  obtain ⟨i, hi, ei⟩ := List.mem_iff_getElem.mp h
  have ln := ord_len g r M.rows.length
  have li : i < (ordAt M G i).length := by
    refine Nat.lt_of_not_le fun q => ?_
    rw [ord_stop q M.rows.length (by omega)] at hi
    omega
  have pre := ord_pre (M := M) (G := G) i (M.rows.length - i)
  rw [show i + (M.rows.length - i) = M.rows.length by omega] at pre
  have pre1 := ord_pre (M := M) (G := G) (i + 1) (M.rows.length - (i + 1))
  rw [show (i + 1) + (M.rows.length - (i + 1)) = M.rows.length by omega] at pre1
  have eq : (ordAt M G i).getD i 0 = c := by
    obtain ⟨t, ht⟩ := pre
    rw [List.getD_eq_getElem?_getD, List.getElem?_eq_getElem li, ← ei]
    show (ordAt M G i)[i] = _
    have : (ordAt M G M.rows.length)[i]? = (ordAt M G i)[i]? := by rw [← ht, List.getElem?_append_left li]
    rw [List.getElem?_eq_getElem li, List.getElem?_eq_getElem hi] at this
    exact (Option.some.inj this).symm
  have nx : ordAt M G (i + 1) = ordStep G (M.rows.getD c.toNat []) (ordAt M G i) := by
    show (if i < (ordAt M G i).length then ordStep G (M.rows.getD ((ordAt M G i).getD i 0).toNat []) (ordAt M G i) else ordAt M G i) = _
    rw [if_pos li, eq]
  obtain ⟨nod, rps⟩ := ord_ok g r i
  have cst : M.St c := ((ord_ok g r M.rows.length).2 c h).1
  have := (ordStep_ok g r (row_st g cst) nod rps).2.2.2 z hz
  rw [← nx] at this
  exact pre1.subset this
end
end Mz

set_option Elab.async false
set_option linter.all false
namespace Mz
open PySem PySem.Spec PyProof.Rows L2
section
variable {M N : Mach} {G F : List Int}
/-- the place of a class in an order -/
def plc (o : List Int) (c : Int) : Nat := o.findIdx fun y => decide (y = c)
theorem plc_at {o : List Int} {c : Int} (h : c ∈ o) : plc o c < o.length ∧ o[plc o c]? = some c := by
  have l : o.findIdx (fun y => decide (y = c)) < o.length := List.findIdx_lt_length_of_exists ⟨c, h, decide_eq_true rfl⟩
  have e : o[o.findIdx (fun y => decide (y = c))] = c := of_decide_eq_true (List.findIdx_getElem (w := l))
  exact ⟨l, by show o[o.findIdx _]? = _; rw [List.getElem?_eq_getElem l, e]⟩
theorem leastBy_row {o : List Int} {i : Nat} {c : Int} (h : o[i]? = some c) : (leastBy M G o).rows[i]? = some ((M.rows.getD c.toNat []).map fun z => ((plc o (cls G z) : Nat) : Int)) := by
  show (o.map _)[i]? = _
  rw [List.getElem?_map, h]
  rfl
theorem leastBy_out {o : List Int} {i : Nat} {c : Int} (h : o[i]? = some c) : (leastBy M G o).out (i : Int) = M.out c := by
  show (o.map fun c => M.out c).getD ((i : Int)).toNat 0 = _
  rw [show ((i : Int)).toNat = i by omega, List.getD_eq_getElem?_getD, List.getElem?_map, h]
  rfl
theorem leastBy_len {o : List Int} : (leastBy M G o).rows.length = o.length := List.length_map ..
theorem leastBy_good (g : Good M) (r : Rep (EqM M) M.rows.length G) : Good (leastBy M G (ordAt M G M.rows.length)) := by
  have ln := ord_len g r M.rows.length
  have rps := (ord_ok g r M.rows.length).2
  refine ⟨g.l1, g.l4, g.o1, g.o6, ?_, ?_, ?_, ?_, ?_, ?_⟩
  · rw [leastBy_len]
    have p := ord_pre (M := M) (G := G) 0 M.rows.length
    have q := p.length_le
    rw [Nat.zero_add] at q
    exact q
  · rw [leastBy_len]
    have := g.s30
    omega
  · show (List.map _ _).length = (List.map _ _).length
    rw [List.length_map, List.length_map]
  · intro w hw
    obtain ⟨c, hc, rfl⟩ := List.mem_map.mp hw
    obtain ⟨w, e1, e2, e3⟩ := g.row (rps c hc).1
    rw [List.length_map, e3]
    exact g.rl w e2
  · intro w hw z hz
    obtain ⟨c, hc, rfl⟩ := List.mem_map.mp hw
    obtain ⟨y, hy, rfl⟩ := List.mem_map.mp hz
    have := (plc_at (ord_closed g r hc hy)).1
    rw [leastBy_len]
    show (0 : Int) ≤ (plc _ _ : Nat) ∧ ((plc _ _ : Nat) : Int) < _
    omega
  · intro z hz
    obtain ⟨c, hc, rfl⟩ := List.mem_map.mp hz
    exact (g.outp (rps c hc).1).2
theorem leastBy_walk (g : Good M) (r : Rep (EqM M) M.rows.length G) : ∀ (v : List Int) (x c : Int) (i : Nat), Lt M.ls v → M.St x → cls G x = c → (ordAt M G M.rows.length)[i]? = some c → M.out (M.run x v) = (leastBy M G (ordAt M G M.rows.length)).out ((leastBy M G (ordAt M G M.rows.length)).run i v)
  | [], x, c, i, _, hx, e, hi => by
    show M.out x = (leastBy M G (ordAt M G M.rows.length)).out i
    rw [leastBy_out hi, ← e]
    exact (cls_rp g r hx).2 [] (fun _ h => by cases h)
  | a :: v, x, c, i, hv, hx, e, hi => by
    obtain ⟨a0, a1⟩ := hv a List.mem_cons_self
    have hv' : Lt M.ls v := fun z hz => hv z (List.mem_cons_of_mem _ hz)
    have mc : c ∈ ordAt M G M.rows.length := List.mem_of_getElem? hi
    obtain ⟨rp, sm⟩ := cls_rp g r hx
    rw [e] at rp sm
    obtain ⟨sx, -⟩ := g.step hx a0 a1
    obtain ⟨sc, w, w1, w2⟩ := g.step rp.1 a0 a1
    have wg : M.rows.getD c.toNat [] = w := by
      rw [List.getD_eq_getElem?_getD, w1]
      rfl
    have eq : cls G (M.next x a) = cls G (M.next c a) := by
      obtain ⟨p1, p2⟩ := cls_rp g r sx
      obtain ⟨p3, p4⟩ := cls_rp g r sc
      refine rp_uniq g r p1 p3 fun u hu => ?_
      rw [← p2 u hu, ← p4 u hu]
      exact sm.step g rfl a0 a1 u hu
    have inn : cls G (M.next c a) ∈ ordAt M G M.rows.length := ord_closed g r mc (by rw [wg]; exact List.mem_of_getElem? w2)
    have nx : (leastBy M G (ordAt M G M.rows.length)).next i a = ((plc (ordAt M G M.rows.length) (cls G (M.next c a)) : Nat) : Int) := by
      show ((leastBy M G (ordAt M G M.rows.length)).rows.getD ((i : Int)).toNat []).getD a.toNat 0 = _
      have rg : (leastBy M G (ordAt M G M.rows.length)).rows.getD i [] = w.map fun z => ((plc (ordAt M G M.rows.length) (cls G z) : Nat) : Int) := by
        rw [List.getD_eq_getElem?_getD, leastBy_row hi, wg]
        rfl
      rw [show ((i : Int)).toNat = i by omega, rg, List.getD_eq_getElem?_getD, List.getElem?_map, w2]
      rfl
    show M.out (M.run (M.next x a) v) = (leastBy M G (ordAt M G M.rows.length)).out ((leastBy M G (ordAt M G M.rows.length)).run ((leastBy M G (ordAt M G M.rows.length)).next i a) v)
    rw [nx]
    exact leastBy_walk g r v (M.next x a) _ _ hv' sx eq (plc_at inn).2
theorem leastBy_sim (g : Good M) (r : Rep (EqM M) M.rows.length G) : Sim M (leastBy M G (ordAt M G M.rows.length)) 0 0 := fun v hv => by
  refine leastBy_walk g r v 0 (cls G 0) 0 hv g.st0 rfl ?_
  obtain ⟨t, ht⟩ := ord_pre (M := M) (G := G) 0 M.rows.length
  rw [Nat.zero_add] at ht
  rw [← ht]
  rfl
end
end Mz

set_option Elab.async false
set_option linter.all false
set_option maxRecDepth 100000
set_option maxHeartbeats 4000000
/-! parting words: their length; least machines and differences -/
namespace Mz
open PySem PySem.Spec PyProof.Rows L2
section
variable {M N : Mach} {G F : List Int}
theorem nopart_sim : NoPart M N (0, 0) ↔ Sim M N 0 0 := by
  constructor
  · intro h v hv
    have := h v hv
    unfold Bad at this
    rw [runP_pair] at this
    exact Classical.not_not.mp this
  · intro h v hv b
    unfold Bad at b
    rw [runP_pair] at b
    exact b (h v hv)
theorem part_isd (k : Kin M N) {p : Pr} {u : List Int} (h : Part M N p u) : IsD M N u.length p :=
  ⟨⟨u, h.lt, Nat.le_refl _, h.bad⟩, fun e he ⟨v, hv, le, b⟩ => by
    have h1 := h.min v hv b
    have h2 := code_short k.gm.l4 (u := v) (v := u) hv (by omega)
    omega⟩
theorem part_both (k : Kin M N) {p : Pr} (hp : InP M N p) {u : List Int} (h : Part M N p u) : u.length + 2 ≤ M.rows.length + N.rows.length := few_rounds k hp (part_isd k h)
/-- within one machine a parting word has fewer letters than there are states -/
theorem part_short (g : Good M) {p : Pr} (hp : InP M M p) {u : List Int} (h : Part M M p u) : u.length + 1 ≤ M.rows.length := by
  have k : Kin M M := ⟨g, g, rfl⟩
  have n1 := g.s1
  refine fine_few (n := M.rows.length) (d := u.length) (R := RM M) (by omega) (eqv_RM M M.rows.length) (fun t x y h v a b => h v a (by omega)) (fun e he => ?_)
  obtain ⟨q, hq, ⟨⟨v, hv, lv, bv⟩, no⟩⟩ := isd_all k hp (part_isd k h) (e + 1) he
  have q1 := hq.1
  have q2 := hq.2
  have a1 := q1.1
  have a2 := q1.2
  have b1 := q2.1
  have b2 := q2.2
  refine ⟨q.1.toNat, q.2.toNat, by omega, by omega, fun w hw lw => ?_, fun z => ?_⟩
  · rw [show ((q.1.toNat : Nat) : Int) = q.1 by omega, show ((q.2.toNat : Nat) : Int) = q.2 by omega]
    refine Classical.byContradiction fun n => no e (by omega) ⟨w, hw, lw, ?_⟩
    unfold Bad
    rw [runP_pair]
    exact n
  · have := z v hv lv
    rw [show ((q.1.toNat : Nat) : Int) = q.1 by omega, show ((q.2.toNat : Nat) : Int) = q.2 by omega] at this
    unfold Bad at bv
    rw [runP_pair] at bv
    exact bv this
/-- two states of a least machine are parted -/
theorem least_parts (g : Good M) (r : Rep (EqM M) M.rows.length G) {i j : Int} (hi : (leastBy M G (ordAt M G M.rows.length)).St i) (hj : (leastBy M G (ordAt M G M.rows.length)).St j) (ne : i ≠ j) :
    ∃ u, Part (leastBy M G (ordAt M G M.rows.length)) (leastBy M G (ordAt M G M.rows.length)) (i, j) u := by
  rcases part_or (M := leastBy M G (ordAt M G M.rows.length)) (N := leastBy M G (ordAt M G M.rows.length)) (p := (i, j)) with h | h
  · exact h
  · exfalso
    have i0 := hi.1
    have i1 := hi.2
    have j0 := hj.1
    have j1 := hj.2
    rw [leastBy_len] at i1 j1
    obtain ⟨nod, rps⟩ := ord_ok g r M.rows.length
    have ei := List.getElem?_eq_getElem (show i.toNat < (ordAt M G M.rows.length).length by omega)
    have ej := List.getElem?_eq_getElem (show j.toNat < (ordAt M G M.rows.length).length by omega)
    have ri := rps _ (List.mem_of_getElem? ei)
    have rj := rps _ (List.mem_of_getElem? ej)
    have s : Sim M M (ordAt M G M.rows.length)[i.toNat] (ordAt M G M.rows.length)[j.toNat] := fun v hv => by
      rw [leastBy_walk g r v _ _ i.toNat hv ri.1 ri.2 ei, leastBy_walk g r v _ _ j.toNat hv rj.1 rj.2 ej]
      have b := h v hv
      unfold Bad at b
      rw [runP_pair] at b
      have b := Classical.not_not.mp b
      rw [show ((i.toNat : Nat) : Int) = i by omega, show ((j.toNat : Nat) : Int) = j by omega]
      exact b
    have e := rp_uniq g r ri rj s
    have := (List.getElem?_inj (show i.toNat < (ordAt M G M.rows.length).length by omega) nod).mp (ei.trans (by rw [e]; exact ej.symm))
    omega
/-- the same words part machines that answer alike -/
theorem part_move {M' N' : Mach} (ls : M'.ls = M.ls) (ls2 : N'.ls = N.ls) (k : Kin M N) (s : Sim M M' 0 0) (t : Sim N N' 0 0) {u : List Int} (h : Part M N (0, 0) u) : Part M' N' (0, 0) u := by
  have e : ∀ v, Lt M.ls v → (Bad M N (runP M N (0, 0) v) ↔ Bad M' N' (runP M' N' (0, 0) v)) := fun v hv => by
    unfold Bad
    rw [runP_pair, runP_pair]
    show M.out (M.run 0 v) ≠ N.out (N.run 0 v) ↔ M'.out (M'.run 0 v) ≠ N'.out (N'.run 0 v)
    rw [s v hv, t v (by rw [← k.ls]; exact hv)]
  exact ⟨by rw [ls]; exact h.lt, (e u h.lt).mp h.bad, fun v hv b => h.min v (by rw [← ls]; exact hv) ((e v (by rw [← ls]; exact hv)).mpr b)⟩
end
/-! ### == of machines, both ways -/
theorem eqv_rows : ∀ rs qs : List (List Int), PyData.eqvAll (rs.map dRow) (qs.map dRow) = decide (rs = qs)
  | [], [] => by simp [PyData.eqvAll]
  | [], _ :: _ => by simp [PyData.eqvAll]
  | _ :: _, [] => by simp [PyData.eqvAll]
  | r :: rs, q :: qs => by
    have e : PyData.eqv (dRow r) (dRow q) = decide (r = q) := by
      unfold dRow
      rw [PyData.eqv, eqv_ints]
    rw [List.map_cons, List.map_cons, PyData.eqvAll, eqv_rows rs qs, e]
    by_cases h : r = q
    · subst h
      by_cases h2 : rs = qs <;> simp [h2]
    · simp [h]
theorem eqv_mach (A B : Mach) : (PyData.eqv (dMach A) (dMach B) = true) ↔ A = B := by
  constructor
  · intro h
    unfold dMach at h
    rw [PyData.eqv, PyData.eqvAll, PyData.eqvAll, PyData.eqvAll, PyData.eqvAll, PyData.eqvAll] at h
    simp only [Bool.and_eq_true] at h
    obtain ⟨h1, h2, h3, h4, _⟩ := h
    have e1 : A.ls = B.ls := by simpa [PyData.eqv] using h1
    have e2 : A.os = B.os := by simpa [PyData.eqv] using h2
    have e3 : A.rows = B.rows := by
      rw [PyData.eqv, eqv_rows] at h3
      exact of_decide_eq_true h3
    have e4 : A.outs = B.outs := by
      unfold dRow at h4
      rw [PyData.eqv, eqv_ints] at h4
      exact of_decide_eq_true h4
    cases A
    cases B
    simp at e1 e2 e3 e4
    subst e1 e2 e3 e4
    rfl
  · intro h
    rw [h]
    exact SeqAt.eqv_refl _ (lay_mach B)
section
variable {K : PySem.W.Frag} {H : Hp} {a b : Addr} {A B : Mach} {Q : VK}
theorem eq_machB (h1 : MA H a A) (h2 : MA H b B) (q : ∀ c : Bool, (c = true ↔ A = B) → Q (.bl c) H) : rEqD K (.ref a) (.ref b) H Q :=
  ⟨_, _, dp_mach h1, dp_mach h2, shaped_mach A, shaped_mach B, q _ (eqv_mach A B)⟩
end
end Mz

set_option Elab.async false
set_option linter.all false
set_option maxRecDepth 100000
set_option maxHeartbeats 4000000
/-! lists of pairs of ints, lists of lists of ints: not in, ==, != -/
namespace Mz
open PySem PySem.Spec PyProof.Rows L2
def lsP (p : Pr) : List Int := [p.1, p.2]
theorem lsP_inj {p q : Pr} : lsP p = lsP q ↔ p = q := by
  constructor
  · intro h
    have h : [p.1, p.2] = [q.1, q.2] := h
    injection h with a b
    injection b with b c
    exact Prod.ext a b
  · rintro rfl
    rfl
theorem lsP_map {D E : List Pr} : D.map lsP = E.map lsP ↔ D = E := by
  constructor
  · intro h
    induction D generalizing E with
    | nil => cases E with
      | nil => rfl
      | cons => cases h
    | cons x D ih => cases E with
      | nil => cases h
      | cons y E =>
        rw [List.map_cons, List.map_cons] at h
        injection h with a b
        rw [lsP_inj.mp a, ih b]
  · rintro rfl
    rfl
theorem shaped_rows (D : List (List Int)) : SeqAt.shaped (.list (D.map dRow)) = true := by
  have h1 := depth_rows D
  have h3 : PyData.depth (.list (D.map dRow)) ≤ 64 := by
    simp only [PyData.depth]
    omega
  have h4 : PyData.canLay0 (.list (D.map dRow)) = true := by
    simp only [PyData.canLay0]
    exact lay_rows D
  show (PyData.canLay0 _ && decide (PyData.depth _ ≤ 64)) = true
  rw [h4, decide_eq_true h3]
  rfl
theorem shaped_row (w : List Int) : SeqAt.shaped (dRow w) = true := by
  have h1 := depthI w
  have h3 : PyData.depth (dRow w) ≤ 64 := by
    unfold dRow
    simp only [PyData.depth]
    omega
  have h4 : PyData.canLay0 (dRow w) = true := by
    unfold dRow
    simp only [PyData.canLay0]
    exact lay_ints w
  show (PyData.canLay0 _ && decide (PyData.depth _ ≤ 64)) = true
  rw [h4, decide_eq_true h3]
  rfl
theorem eqv_row (a b : List Int) : PyData.eqv (dRow a) (dRow b) = decide (a = b) := by
  unfold dRow
  rw [PyData.eqv, eqv_ints]
theorem any_rows (D : List (List Int)) (w : List Int) : ((D.map dRow).any fun z => PyData.eqv z (dRow w)) = decide (w ∈ D) := by
  rw [List.any_map, Bool.eq_iff_iff, List.any_eq_true, decide_eq_true_iff]
  constructor
  · rintro ⟨x, hx, h⟩
    have : PyData.eqv (dRow x) (dRow w) = true := h
    rw [eqv_row] at this
    rw [← of_decide_eq_true this]
    exact hx
  · intro h
    exact ⟨w, h, by show PyData.eqv (dRow w) (dRow w) = true; rw [eqv_row]; exact decide_eq_true rfl⟩
/-- a list of pairs -/
def PrL (H : Hp) (ts : List Addr) (D : List Pr) : Prop := ts.length = D.length ∧ ∀ (i : Nat) (a : Addr) (p : Pr), ts[i]? = some a → D[i]? = some p → H a = some (.tup [.int p.1, .int p.2])
theorem PrL.same {H H' : Hp} {ts : List Addr} {D : List Pr} (h : PrL H ts D) (s : Same H H') : PrL H' ts D := ⟨h.1, fun i a w h1 h2 => s _ _ (h.2 i a w h1 h2)⟩
theorem dp_prs {K : PySem.W.Frag} {H : Hp} {p : Addr} {ts : List Addr} {D : List Pr} (hp : H p = some (.lst (ts.map V.ref))) (h : PrL H ts D) : Dp K H (.ref p) (.list ((D.map lsP).map dRow)) := by
  refine .lst (SqL.of hp) (dp_rows ts (D.map lsP) (by rw [List.length_map]; exact h.1) fun i r w a b => ?_)
  obtain ⟨q, hq, rfl⟩ : ∃ q, D[i]? = some q ∧ w = lsP q := by
    rw [List.getElem?_map] at b
    cases e : D[i]? with
    | none => rw [e] at b; cases b
    | some q => rw [e] at b; exact ⟨q, rfl, (Option.some.inj b).symm⟩
  exact h.2 i r q a hq
section
variable {K : PySem.W.Frag} {H : Hp} {a b p r : Addr} {as bs ts us : List Addr} {D E : List Pr} {Va Wa : List (List Int)} {x : Pr} {Q : VK}
theorem notin_prs (hr : H r = some (.tup [.int x.1, .int x.2])) (hp : H p = some (.lst (ts.map V.ref))) (h : PrL H ts D) (q : Q (.bl (!decide (x ∈ D))) H) : rNotInD K (.ref r) (.ref p) H Q := by
  refine ⟨dRow (lsP x), (D.map lsP).map dRow, .tup (SqT.of hr) (dp_ints (lsP x)), dp_prs hp h, shaped_row _, shaped_rows _, ?_⟩
  rw [any_rows]
  have e : decide (lsP x ∈ D.map lsP) = decide (x ∈ D) := by
    rw [decide_eq_decide, List.mem_map]
    exact ⟨fun ⟨y, h1, h2⟩ => by rw [← lsP_inj.mp h2]; exact h1, fun h => ⟨x, h, rfl⟩⟩
  rw [e]
  exact q
theorem eqv_prs (D E : List Pr) : PyData.eqv (.list ((D.map lsP).map dRow)) (.list ((E.map lsP).map dRow)) = decide (D = E) := by
  rw [PyData.eqv, eqv_rows, decide_eq_decide]
  exact lsP_map
theorem ne_prs (ha : H a = some (.lst (ts.map V.ref))) (h1 : PrL H ts D) (hb : H b = some (.lst (us.map V.ref))) (h2 : PrL H us E) (q : Q (.bl (!decide (D = E))) H) : rNeD K (.ref a) (.ref b) H Q :=
  ⟨_, _, dp_prs ha h1, dp_prs hb h2, shaped_rows _, shaped_rows _, by rw [eqv_prs]; exact q⟩
theorem eqv_lls : ∀ rs qs : List (List Int), PyData.eqvAll (rs.map dLst) (qs.map dLst) = decide (rs = qs)
  | [], [] => by simp [PyData.eqvAll]
  | [], _ :: _ => by simp [PyData.eqvAll]
  | _ :: _, [] => by simp [PyData.eqvAll]
  | r :: rs, q :: qs => by
    have e : PyData.eqv (dLst r) (dLst q) = decide (r = q) := eqv_l r q
    rw [List.map_cons, List.map_cons, PyData.eqvAll, eqv_lls rs qs, e]
    by_cases h : r = q
    · subst h
      by_cases h2 : rs = qs <;> simp [h2]
    · simp [h]
theorem eqv_ll (D E : List (List Int)) : PyData.eqv (dLL D) (dLL E) = decide (D = E) := by
  unfold dLL
  rw [PyData.eqv, eqv_lls]
theorem ne_lls (ha : H a = some (.lst (as.map V.ref))) (h1 : LL H as Va) (hb : H b = some (.lst (bs.map V.ref))) (h2 : LL H bs Wa) (q : Q (.bl (!decide (Va = Wa))) H) : rNeD K (.ref a) (.ref b) H Q :=
  ⟨_, _, dp_ll ha h1, dp_ll hb h2, shaped_ll _, shaped_ll _, by rw [eqv_ll]; exact q⟩
theorem eq_lls (ha : H a = some (.lst (as.map V.ref))) (h1 : LL H as Va) (hb : H b = some (.lst (bs.map V.ref))) (h2 : LL H bs Wa) (q : Q (.bl (decide (Va = Wa))) H) : rEqD K (.ref a) (.ref b) H Q :=
  ⟨_, _, dp_ll ha h1, dp_ll hb h2, shaped_ll _, shaped_ll _, by rw [eqv_ll]; exact q⟩
end
end Mz

set_option Elab.async false
set_option linter.all false
/-! any walk, whatever a turn asks -/
namespace Mz
open PySem PySem.Spec PyProof.Rows L2
theorem it_any {J : It} {n : Nat} {G : Hp → Prop} {Y : Nat → Hp → V → Hp → Prop} (w : Walk J n G Y) {C : V → Hp → (Hp → Prop) → Prop} {E : Hp → Prop} {Hs : Hp} (Pv : Nat → Hp → Prop) (start : Pv 0 Hs) (still : ∀ i H, i ≤ n → Pv i H → G H)
    (turn : ∀ i x H H', i < n → Pv i H → Y i H x H' → C x H' (Pv (i + 1))) (done : ∀ H, Pv n H → E H) :
    ∃ W1 : Nat → Nat → Hp → Prop, (∃ m, W1 0 m Hs) ∧ ∀ j k H, W1 j k H → (J.stop j H ∧ E H) ∨ (J.go j H ∧ ∃ Nx1 : Hp → Prop, (∀ H', Nx1 H' → ∃ k', k' < k ∧ W1 (j + 1) k' H') ∧ ∀ x H', J.yld j H x H' → C x H' Nx1) := by
  refine ⟨fun j k H => k + j = n ∧ Pv j H, ⟨n, rfl, start⟩, fun j k H ⟨e, p⟩ => ?_⟩
  by_cases c : k = 0
  · have e : j = n := by omega
    subst e
    exact .inl ⟨w.stops H (still _ H (Nat.le_refl _) p), done H p⟩
  · have lt : j < n := by omega
    have gH := still j H (by omega) p
    exact .inr ⟨w.goes j H lt gH, Pv (j + 1), fun H' p' => ⟨k - 1, by omega, by omega, p'⟩, fun x H' y => turn j x H H' lt p (w.yields j H x H' lt gH y)⟩
end Mz

set_option Elab.async false
set_option linter.all false
set_option maxRecDepth 100000
set_option maxHeartbeats 4000000
/-! all words of a length, in their order; dicts whose keys are words -/
namespace Mz
open PySem PySem.Spec PyProof.Rows L2
def moreW (L : Nat) (w : List Int) : List (List Int) := (List.range L).map fun a : Nat => w ++ [(a : Int)]
def allW (L : Nat) : Nat → List (List Int)
  | 0 => [[]]
  | n + 1 => (allW L n).flatMap (moreW L)
theorem moreW_len {L : Nat} {w : List Int} : (moreW L w).length = L := by
  unfold moreW
  rw [List.length_map, List.length_range]
theorem flat_len {L : Nat} : ∀ ws : List (List Int), (ws.flatMap (moreW L)).length = ws.length * L
  | [] => by simp
  | w :: ws => by
    rw [List.flatMap_cons, List.length_append, moreW_len, flat_len ws, List.length_cons, Nat.succ_mul, Nat.add_comm]
theorem allW_len {L : Nat} : ∀ n, (allW L n).length = L ^ n
  | 0 => rfl
  | n + 1 => by
    show ((allW L n).flatMap (moreW L)).length = _
    rw [flat_len, allW_len n, Nat.pow_succ]
theorem allW_mem {L : Nat} : ∀ {n : Nat} {w : List Int}, w ∈ allW L n ↔ w.length = n ∧ Lt (L : Int) w
  | 0, w => by
    show w ∈ [[]] ↔ _
    rw [List.mem_singleton]
    constructor
    · rintro rfl
      exact ⟨rfl, fun z hz => absurd hz (by simp)⟩
    · rintro ⟨h, _⟩
      exact List.length_eq_zero_iff.mp h
  | n + 1, w => by
    show w ∈ (allW L n).flatMap (moreW L) ↔ _
    rw [List.mem_flatMap]
    constructor
    · rintro ⟨u, hu, hw⟩
      obtain ⟨a, ha, rfl⟩ := List.mem_map.mp hw
      obtain ⟨h1, h2⟩ := allW_mem.mp hu
      have := List.mem_range.mp ha
      exact ⟨by rw [List.length_append, h1]; rfl, lt_snoc.mpr ⟨h2, by omega, by omega⟩⟩
    · rintro ⟨h1, h2⟩
      rcases List.eq_nil_or_concat w with e | ⟨u, a, e⟩
      · rw [e] at h1
        cases h1
      · have e : w = u ++ [a] := by rw [e, List.concat_eq_append]
        subst e
        obtain ⟨q1, q2, q3⟩ := lt_snoc.mp h2
        rw [List.length_append] at h1
        refine ⟨u, allW_mem.mpr ⟨by simpa using h1, q1⟩, List.mem_map.mpr ⟨a.toNat, List.mem_range.mpr (by omega), ?_⟩⟩
        rw [show ((a.toNat : Nat) : Int) = a by omega]
theorem moreW_nodup {L : Nat} {w : List Int} : (moreW L w).Nodup := by
  unfold moreW
  refine List.Pairwise.map _ (fun a b h e => h ?_) List.nodup_range
  have := List.append_cancel_left e
  injection this with this
  omega
theorem allW_nodup {L : Nat} : ∀ n, (allW L n).Nodup
  | 0 => by show ([[]] : List (List Int)).Nodup; simp
  | n + 1 => by
    show ((allW L n).flatMap (moreW L)).Nodup
    have := allW_nodup (L := L) n
    generalize allW L n = ws at this
    induction ws with
    | nil => simp
    | cons w ws ih =>
      obtain ⟨h1, h2⟩ := List.nodup_cons.mp this
      rw [List.flatMap_cons]
      refine List.nodup_append.mpr ⟨moreW_nodup, ih h2, ?_⟩
      rintro x hx y hy rfl
      obtain ⟨a, ha, rfl⟩ := List.mem_map.mp hx
      obtain ⟨u, hu, hy⟩ := List.mem_flatMap.mp hy
      obtain ⟨b, hb, e⟩ := List.mem_map.mp hy
      have e2 := (List.append_inj' e rfl).1
      rw [e2] at hu
      exact h1 hu
theorem allW_head {L : Nat} (hL : 0 < L) : ∀ n, ∃ r, allW L n = List.replicate n (0 : Int) :: r
  | 0 => ⟨[], rfl⟩
  | n + 1 => by
    obtain ⟨r, e⟩ := allW_head hL n
    obtain ⟨m, rfl⟩ : ∃ m, L = m + 1 := ⟨L - 1, by omega⟩
    have e2 : moreW (m + 1) (List.replicate n (0 : Int)) = (List.replicate (n + 1) (0 : Int)) :: ((List.range m).map Nat.succ).map fun a : Nat => List.replicate n (0 : Int) ++ [(a : Int)] := by
      unfold moreW
      rw [List.range_succ_eq_map, List.map_cons, List.replicate_succ']
      rfl
    refine ⟨((List.range m).map Nat.succ).map (fun a : Nat => List.replicate n (0 : Int) ++ [(a : Int)]) ++ r.flatMap (moreW (m + 1)), ?_⟩
    show (allW (m + 1) n).flatMap (moreW (m + 1)) = _
    rw [e, List.flatMap_cons, e2, List.cons_append]
/-- a word as a key -/
def keyW (w : List Int) : List L2.Key := w.map Sum.inl
theorem keyW_inj {u v : List Int} (h : keyW u = keyW v) : u = v := by
  unfold keyW at h
  induction u generalizing v with
  | nil =>
    cases v with
    | nil => rfl
    | cons _ _ => cases h
  | cons a u ih =>
    cases v with
    | nil => cases h
    | cons b v =>
      injection h with h1 h2
      injection h1 with h1
      rw [h1, ih h2]
theorem keyW_V (w : List Int) : (keyW w).map kV = w.map V.int := by
  unfold keyW
  rw [List.map_map]
  rfl
/-- words with the value True -/
def kvsW (ws : List (List Int)) : List (List L2.Key × V) := ws.map fun w => (keyW w, V.bl true)
theorem kvsW_len {ws : List (List Int)} : (kvsW ws).length = ws.length := List.length_map ..
theorem valW {ws : List (List Int)} {w : List Int} : valV (kvsW ws) (keyW w) = if w ∈ ws then some (.bl true) else none := by
  induction ws with
  | nil => rfl
  | cons u ws ih =>
    show valV ((keyW u, V.bl true) :: kvsW ws) (keyW w) = _
    by_cases e : u = w
    · subst e
      rw [valV_pos rfl, if_pos List.mem_cons_self]
    · rw [valV_neg (fun z => e (keyW_inj z)), ih]
      by_cases h : w ∈ ws
      · rw [if_pos h, if_pos (List.mem_cons_of_mem _ h)]
      · rw [if_neg h, if_neg fun z => (List.mem_cons.mp z).elim (fun q => e q.symm) h]
theorem dropW {ws : List (List Int)} {w : List Int} : dropK (kvsW ws) (keyW w) = kvsW (ws.filter fun u => decide (u ≠ w)) := by
  induction ws with
  | nil => rfl
  | cons u ws ih =>
    show dropK ((keyW u, V.bl true) :: kvsW ws) (keyW w) = _
    unfold dropK at ih ⊢
    by_cases e : u = w
    · subst e
      rw [List.filter_cons_of_neg (by simp), ih, List.filter_cons_of_neg (by simp)]
    · rw [List.filter_cons_of_pos (by simpa using fun z => e (keyW_inj z)), ih, List.filter_cons_of_pos (by simpa using e)]
      rfl
theorem putW {ws : List (List Int)} {w : List Int} (h : w ∉ ws) : putK (kvsW ws) (keyW w) (.bl true) = kvsW (ws ++ [w]) := by
  rw [putK_new _ (by rw [valW, if_neg h])]
  unfold kvsW
  rw [List.map_append]
  rfl
/-- tuples of ints, by their addresses -/
def TupL (H : Hp) (ts : List Addr) (ws : List (List Int)) : Prop := ts.length = ws.length ∧ ∀ (i : Nat) (a : Addr) (w : List Int), ts[i]? = some a → ws[i]? = some w → IT H a w
theorem TupL.same {H H' : Hp} {ts : List Addr} {ws : List (List Int)} (h : TupL H ts ws) (s : Same H H') : TupL H' ts ws := ⟨h.1, fun i a w p q => s _ _ (h.2 i a w p q)⟩
theorem TupL.nil {H : Hp} : TupL H [] [] := ⟨rfl, fun i a w h => by simp at h⟩
theorem TupL.snoc {H : Hp} {ts : List Addr} {ws : List (List Int)} {t : Addr} {w : List Int} (h : TupL H ts ws) (e : IT H t w) : TupL H (ts ++ [t]) (ws ++ [w]) := by
  refine ⟨by rw [List.length_append, List.length_append, h.1]; rfl, fun i a u p q => ?_⟩
  rcases get_app q with y | ⟨y1, y2⟩
  · rcases get_app p with v | ⟨v1, v2⟩
    · exact h.2 i a u v y
    · have := (List.getElem?_eq_some_iff.mp y).1
      rw [← h.1] at this
      omega
  · rcases get_app p with v | ⟨v1, v2⟩
    · have := (List.getElem?_eq_some_iff.mp v).1
      rw [h.1] at this
      omega
    · rw [v2, y2]
      exact e
theorem TupL.push {H : Hp} {ts : List Addr} {ws : List (List Int)} {D t : Addr} {w : List Int} {vs : List V} (h : TupL H ts ws) (hD : H D = some (.lst vs)) (e : IT H t w) {o : HO} : TupL (upd H D o) (ts ++ [t]) (ws ++ [w]) := by
  have nt : ∀ {x : Addr} {u : List Int}, IT H x u → x ≠ D := fun h z => by
    unfold IT at h
    rw [z, hD] at h
    cases h
  have k := h.snoc e
  exact ⟨k.1, fun i a u p q => (upd_ne (nt (k.2 i a u p q))).trans (k.2 i a u p q)⟩
end Mz

set_option Elab.async false
set_option linter.all false
set_option maxRecDepth 100000
set_option maxHeartbeats 4000000
/-! small things: ifs, f-strings of small ints, places of lists -/
namespace Mz
open PySem PySem.Spec PyProof.Rows L2
theorem js_4 {t1 t2 : TE} {z1 z2 : Str} {i1 i2 : Int} {σ : L2.St} {H : Hp} {Q : Str → Hp → Prop} (h1 : ∀ {Q : VK}, Q (.int i1) H → t1 σ H Q) (h2 : ∀ {Q : VK}, Q (.int i2) H → t2 σ H Q) (b1 : i1.natAbs < 2 ^ 64) (b2 : i2.natAbs < 2 ^ 64) (l1 : z1.length ≤ 100) (l2 : z2.length ≤ 100)
    (k : ∀ out, Q out H) : tJs [tC (.str z1), tFmt t1, tC (.str z2), tFmt t2] Str.empty σ H Q := by
  have i1' := int_text_len_1921 (log_small b1)
  have i2' := int_text_len_1921 (log_small b2)
  refine ⟨z1, rfl, ?_, ?_⟩
  · rw [PySem.Str.length_append, sizeLine_eq]
    show 0 + z1.length ≤ _
    omega
  refine h1 (.inr ⟨i1, rfl, log_small b1, _, rfl, ?_, z2, rfl, ?_, ?_⟩)
  · rw [PySem.Str.length_append, PySem.Str.length_append, sizeLine_eq]
    show 0 + z1.length + _ ≤ _
    omega
  · rw [PySem.Str.length_append, PySem.Str.length_append, PySem.Str.length_append, sizeLine_eq]
    show 0 + z1.length + _ + _ ≤ _
    omega
  refine h2 (.inr ⟨i2, rfl, log_small b2, _, rfl, ?_, k _⟩)
  rw [PySem.Str.length_append, PySem.Str.length_append, PySem.Str.length_append, PySem.Str.length_append, sizeLine_eq]
  show 0 + z1.length + _ + _ + _ ≤ _
  omega
theorem js_2 {t1 : TE} {z1 : Str} {i1 : Int} {σ : L2.St} {H : Hp} {Q : Str → Hp → Prop} (h1 : ∀ {Q : VK}, Q (.int i1) H → t1 σ H Q) (b1 : i1.natAbs < 2 ^ 64) (l1 : z1.length ≤ 100)
    (k : ∀ out, Q out H) : tJs [tC (.str z1), tFmt t1] Str.empty σ H Q := by
  have i1' := int_text_len_1921 (log_small b1)
  refine ⟨z1, rfl, ?_, ?_⟩
  · rw [PySem.Str.length_append, sizeLine_eq]
    show 0 + z1.length ≤ _
    omega
  refine h1 (.inr ⟨i1, rfl, log_small b1, _, rfl, ?_, k _⟩)
  rw [PySem.Str.length_append, PySem.Str.length_append, sizeLine_eq]
  show 0 + z1.length + _ ≤ _
  omega
theorem iteN2 {c A B : Prop} [Decidable c] (h1 : ¬ c → A) (h2 : c → B) : if (!decide c) = true then A else B := by
  by_cases h : c
  · rw [if_neg (by simp [h])]
    exact h2 h
  · rw [if_pos (by simp [h])]
    exact h1 h
theorem iteB {b : Bool} {A B : Prop} (h1 : b = false → A) (h2 : b = true → B) : if (!b) = true then A else B := by
  cases b with
  | false => exact h1 rfl
  | true => exact h2 rfl
theorem iteT0 {A B : Prop} (h : A) : if (!false) = true then A else B := by
  exact h
theorem ixN_in {n : Nat} {k : Int} (h0 : 0 ≤ k) (h1 : k < n) : ixN n k = some k.toNat := by
  unfold ixN
  rw [if_pos h0, if_pos h1]
theorem lit_at {ns : List Int} {i : Int} (h0 : 0 ≤ i) (h1 : i < ns.length) : ∃ x ∈ ns, atI (ns.map V.int) i = some (.int x) := by
  have lt : i.toNat < ns.length := by omega
  exact ⟨ns[i.toNat], List.getElem_mem lt, atI_get? h0 (List.getElem?_eq_getElem lt)⟩
def tInv (I J : L2.St → Hp → Prop) : TS := fun D σ H => I σ H ∧ ∀ σ' H', J σ' H' → D.nx σ' H'
theorem cut_ints (ns : List Int) (lo hi : Option Int) : ∃ ms : List Int, cutV (ns.map V.int) lo hi = ms.map V.int ∧ ms.length ≤ ns.length := by
  refine ⟨(ns.drop (HT.sIx ns.length 0 lo)).take (HT.sIx ns.length ns.length hi - HT.sIx ns.length 0 lo), ?_, ?_⟩
  · unfold cutV
    rw [List.length_map, List.map_take, List.map_drop]
  · rw [List.length_take, List.length_drop]
    omega
end Mz

set_option Elab.async false
set_option linter.all false
set_option maxRecDepth 100000
set_option maxHeartbeats 4000000
/-! small things: f-strings, sums and slices of tuples, fields of objects, all but one thing as it was -/
namespace Mz
open PySem PySem.Spec PyProof.Rows L2
theorem js_3 {t1 : TE} {z1 z2 : Str} {i1 : Int} {σ : L2.St} {H : Hp} {Q : Str → Hp → Prop} (h1 : ∀ {Q : VK}, Q (.int i1) H → t1 σ H Q) (b1 : i1.natAbs < 2 ^ 64) (l1 : z1.length ≤ 100) (l2 : z2.length ≤ 100)
    (k : ∀ out, Q out H) : tJs [tC (.str z1), tFmt t1, tC (.str z2)] Str.empty σ H Q := by
  have i1' := int_text_len_1921 (log_small b1)
  refine ⟨z1, rfl, ?_, ?_⟩
  · rw [PySem.Str.length_append, sizeLine_eq]
    show 0 + z1.length ≤ _
    omega
  refine h1 (.inr ⟨i1, rfl, log_small b1, _, rfl, ?_, z2, rfl, ?_, k _⟩)
  · rw [PySem.Str.length_append, PySem.Str.length_append, sizeLine_eq]
    show 0 + z1.length + _ ≤ _
    omega
  · rw [PySem.Str.length_append, PySem.Str.length_append, PySem.Str.length_append, sizeLine_eq]
    show 0 + z1.length + _ + _ ≤ _
    omega
theorem js_5 {t1 t2 : TE} {z1 z2 z3 : Str} {i1 i2 : Int} {σ : L2.St} {H : Hp} {Q : Str → Hp → Prop} (h1 : ∀ {Q : VK}, Q (.int i1) H → t1 σ H Q) (h2 : ∀ {Q : VK}, Q (.int i2) H → t2 σ H Q) (b1 : i1.natAbs < 2 ^ 64) (b2 : i2.natAbs < 2 ^ 64) (l1 : z1.length ≤ 100) (l2 : z2.length ≤ 100) (l3 : z3.length ≤ 100)
    (k : ∀ out, Q out H) : tJs [tC (.str z1), tFmt t1, tC (.str z2), tFmt t2, tC (.str z3)] Str.empty σ H Q := by
  have i1' := int_text_len_1921 (log_small b1)
  have i2' := int_text_len_1921 (log_small b2)
  refine ⟨z1, rfl, ?_, ?_⟩
  · rw [PySem.Str.length_append, sizeLine_eq]
    show 0 + z1.length ≤ _
    omega
  refine h1 (.inr ⟨i1, rfl, log_small b1, _, rfl, ?_, z2, rfl, ?_, ?_⟩)
  · rw [PySem.Str.length_append, PySem.Str.length_append, sizeLine_eq]
    show 0 + z1.length + _ ≤ _
    omega
  · rw [PySem.Str.length_append, PySem.Str.length_append, PySem.Str.length_append, sizeLine_eq]
    show 0 + z1.length + _ + _ ≤ _
    omega
  refine h2 (.inr ⟨i2, rfl, log_small b2, _, rfl, ?_, z3, rfl, ?_, k _⟩)
  · rw [PySem.Str.length_append, PySem.Str.length_append, PySem.Str.length_append, PySem.Str.length_append, sizeLine_eq]
    show 0 + z1.length + _ + _ + _ ≤ _
    omega
  · rw [PySem.Str.length_append, PySem.Str.length_append, PySem.Str.length_append, PySem.Str.length_append, PySem.Str.length_append, sizeLine_eq]
    show 0 + z1.length + _ + _ + _ + _ ≤ _
    omega
theorem lk_here {k : Str} {v : V} {r : List (Str × V)} : List.lookup k ((k, v) :: r) = some v := by
  have e : (k == k) = true := beq_self_eq_true k
  simp only [List.lookup, e]
theorem lk_past {k g : Str} {v : V} {r : List (Str × V)} (h : (k == g) = false) : List.lookup k ((g, v) :: r) = List.lookup k r := by
  simp only [List.lookup, h]
theorem put_here {f : Str} {v x : V} {r : List (Str × V)} : putF f v ((f, x) :: r) = (f, v) :: r := if_pos rfl
theorem put_past {f g : Str} {v x : V} {r : List (Str × V)} (h : ¬ g = f) : putF f v ((g, x) :: r) = (g, x) :: putF f v r := if_neg h
theorem slA_any {K : PySem.W.Frag} {H : Hp} {a : Addr} {xs : List V} {lo hi : Option Int} {Q : VK} (h : H a = some (.tup xs)) (q : ∀ H' p, Same H H' → H' p = some (.tup (cutV xs lo hi)) → Q (.ref p) H') : rSlA K (.ref a) lo hi H Q := by
  refine ⟨a, xs, rfl, SqT.of h, fun z => ?_, fun _ p hp => q _ p (same_upd (Same.refl H) hp) upd_same⟩
  refine q H a (Same.refl H) ?_
  rw [h]
  unfold cutV
  rw [z.1, z.2, List.drop_zero, Nat.sub_zero, List.take_length]
theorem catA_any {K : PySem.W.Frag} {H : Hp} {a b : Addr} {xs ys : List V} {Q : VK} (h1 : H a = some (.tup xs)) (h2 : H b = some (.tup ys)) (l : xs.length + ys.length ≤ sizeLine) (q : ∀ H' p, Same H H' → H' p = some (.tup (xs ++ ys)) → Q (.ref p) H') : rCatA K (.ref a) (.ref b) H Q := by
  refine ⟨a, b, xs, ys, rfl, rfl, SqT.of h1, SqT.of h2, l, fun z => ?_, fun _ z => ?_, fun _ _ p hp => q _ p (same_upd (Same.refl H) hp) upd_same⟩
  · subst z
    exact q H b (Same.refl H) h2
  · subst z
    exact q H a (Same.refl H) (by rw [List.append_nil]; exact h1)
/-- all but d as it was -/
def But (H H' : Hp) (p : Addr) : Prop := ∀ b o, H b = some o → b ≠ p → H' b = some o
theorem Same.but {H H' : Hp} {p : Addr} (s : Same H H') : But H H' p := fun b o e _ => s b o e
theorem But.trans {H H1 H2 : Hp} {p : Addr} (a : But H H1 p) (b : But H1 H2 p) : But H H2 p := fun c o e n => b c o (a c o e n) n
/-- lists of ints by their addresses, none of them the list D -/
def LLd (H : Hp) (ts : List Addr) (ws : List (List Int)) (D : Addr) : Prop := LL H ts ws ∧ ∀ a ∈ ts, a ≠ D
theorem LLd.nil {H : Hp} {D : Addr} : LLd H [] [] D := ⟨⟨rfl, fun i a u h => by simp at h⟩, fun a h => absurd h (by simp)⟩
theorem LLd.same {H H' : Hp} {ts : List Addr} {ws : List (List Int)} {D : Addr} (h : LLd H ts ws D) (s : Same H H') : LLd H' ts ws D := ⟨h.1.same s, h.2⟩
theorem LLd.upd {H : Hp} {ts : List Addr} {ws : List (List Int)} {D : Addr} (h : LLd H ts ws D) (o : HO) : LLd (L2.upd H D o) ts ws D := ⟨⟨h.1.1, fun j b y h1 h2 => (upd_ne (h.2 b (List.mem_of_getElem? h1))).trans (h.1.2 j b y h1 h2)⟩, h.2⟩
theorem LLd.snoc {H : Hp} {ts : List Addr} {ws : List (List Int)} {D l : Addr} {u : List Int} (h : LLd H ts ws D) (e : H l = some (.lst (u.map V.int))) (n : l ≠ D) : LLd H (ts ++ [l]) (ws ++ [u]) D := by
  refine ⟨⟨by rw [List.length_append, List.length_append, h.1.1]; rfl, fun j b y h1 h2 => ?_⟩, fun a ha => ?_⟩
  · rcases get_app h2 with z | ⟨z1, z2⟩
    · rcases get_app h1 with v | ⟨v1, v2⟩
      · exact h.1.2 j b y v z
      · have := (List.getElem?_eq_some_iff.mp z).1
        rw [← h.1.1] at this
        omega
    · rcases get_app h1 with v | ⟨v1, v2⟩
      · have := (List.getElem?_eq_some_iff.mp v).1
        rw [h.1.1] at this
        omega
      · rw [v2, z2]
        exact e
  · rcases List.mem_append.mp ha with q | q
    · exact h.2 a q
    · rw [List.mem_singleton.mp q]
      exact n
theorem LLd.push {H : Hp} {ts : List Addr} {ws : List (List Int)} {D l : Addr} {u : List Int} (h : LLd H ts ws D) (e : H l = some (.lst (u.map V.int))) (n : l ≠ D) (o : HO) : LLd (L2.upd H D o) (ts ++ [l]) (ws ++ [u]) D := (h.snoc e n).upd o
end Mz

set_option Elab.async false
set_option linter.all false
set_option maxRecDepth 100000
set_option maxHeartbeats 4000000
/-! name = {k: v for ..} with tuples as keys, the name a local: stored in the comprehension's last step -/
namespace Mz
open PySem PySem.Spec PyProof.Rows L2
section
variable {X : Cx}
theorem dc_coreT {pins : List (Addr × Obj)} {s : Shared} {σ : L2.St} {H : Hp} {Q : VK} {pos' : Pos} {use : Option (Value → Sem Unit)} {Qf : Value → Shared → Prop} (I : Inv X pins σ H s) {kx vx tg iter : Expr} {ifs : List Expr} {scope : Scope} {own : List (Str × Nat)} {pos : Pos} {wi : TI} {g : TG} {tt : TT} {tk tv : TE} (hu : X.A.units + 1 < cLine) (hc : X.calm = true) (hN : X.N.Nodup) (hi : PI X tg iter wi) (ok : BlkOk X.N X.env.scope scope own)
    (hg : ∀ (s : Shared) (H : Hp) (C : Addr) (cl : List (Str × Addr)) (fp : List Addr), PG (X.blk s H scope (compEnvC scope cl C X.env) fp) tg g) (ht : ∀ (s : Shared) (H : Hp) (C : Addr) (cl : List (Str × Addr)) (fp : List Addr), PTs (X.blk s H scope (compEnvC scope cl C X.env) fp) ifs tt)
    (hk : ∀ (s : Shared) (H : Hp) (C : Addr) (cl : List (Str × Addr)) (fp : List Addr), PE (X.blk s H scope (compEnvC scope cl C X.env) fp) kx tk) (he : ∀ (s : Shared) (H : Hp) (C : Addr) (cl : List (Str × Addr)) (fp : List Addr), PE (X.blk s H scope (compEnvC scope cl C X.env) fp) vx tv) (hs : ∀ x, foldedSetIterable iter X.env x = pure x)
    (h : tDcT wi g tt tk tv (own.map (·.2)) σ H Q)
    (hRR : ∀ D C s' m H', Inv X pins σ H' s' → Q (.ref D) H' → s'.heap.Ns C m → FpOk X pins H' C → compPost (model X.prog X.w) X.A X.xe use Qf (.ref D) C (.ok .next) s') :
    wpAny (model X.prog X.w) X.A (comprehension (.DictComp kx vx [⟨tg, iter, ifs, 0⟩] scope pos) scope X.env pos' newDict false (eval iter X.env) use) Qf X.xe s := by
  have fr : ∀ y ∈ scope.names, y.2 = .free → ∃ c, X.env.cells.lookup y.1 = some c := fun y hy e => (ok.free y hy e).elim (fun k => I.ok.has _ (.inl k)) (fun k => I.ok.has _ (.inr k))
  refine wpAny_comprehension_free (use := use) rfl hs (closure_ok fr) ok.kind (fun y hy e => by rw [ok.uniq y hy, e]) (thn (hi.run pins s σ H _ I h) fun _ _ hx => thn hx fun itv s2 h2 => ?_)
  obtain ⟨it, fp, tn, J, H2, rfl, I2, T, st2, f2, q⟩ := h2
  refine wpAny_newObj_type (newEnv_comp ?_)
  generalize eD : s2.heap.objs.size = D
  obtain ⟨W, ⟨m0, w0⟩, turn⟩ := q D (I2.hok.fresh (Nat.le_of_eq eD))
  generalize e3 : ({ s2 with heap := s2.heap.push { cls := .type "dict", data := .dict #[] } } : Shared) = s3
  have hp3 : s3.heap = s2.heap.push { cls := .type "dict", data := .dict #[] } := by rw [← e3]
  have I3 : Inv X pins σ (upd H2 D (.dT [])) s3 := by
    subst e3
    exact I2.laid (t' := s2.toks) (fun b o e => Heap.get?_push_of_some _ e) (Nat.le_of_eq eD) (by rw [← eD]; exact dt_empty s2.heap I2.big)
  have below : ∀ b ∈ fp, b < s2.heap.objs.size := fun b hb => let ⟨_, e, _⟩ := T.obj _ _ st2 b hb; Heap.lt_size e
  have f3 : ∀ b ∈ fp, FpOk X pins (upd H2 D (.dT [])) b ∧ b < s3.heap.objs.size := fun b hb =>
    ⟨⟨(upd_ne (by rw [← eD]; exact Nat.ne_of_lt (below b hb))).trans (f2 b hb).1, (f2 b hb).2⟩, by rw [hp3, Heap.size_push]; exact Nat.lt_succ_of_lt (below b hb)⟩
  have st3 : tn 0 s3.heap := T.keep _ _ _ st2 fun b _ o e => by rw [hp3]; exact Heap.get?_push_of_some _ e
  have B0 := block_start I3 ok hN f3
  generalize ecl : cellsFrom (s3.heap.objs.size + 1) scope.names (cloFrom X.env.cells scope.names []) = cl at B0
  have pg := hg s3 (upd H2 D (.dT [])) s3.heap.objs.size cl fp
  have pt := ht s3 (upd H2 D (.dT [])) s3.heap.objs.size cl fp
  have pk := hk s3 (upd H2 D (.dT [])) s3.heap.objs.size cl fp
  have pe := he s3 (upd H2 D (.dT [])) s3.heap.objs.size cl fp
  show codeAny _ _ (.compStart (.DictComp kx vx [⟨tg, iter, ifs, 0⟩] scope pos) 0 (.ref it) (.ref D) (compEnvC scope cl s3.heap.objs.size X.env)) (compPost (model X.prog X.w) X.A X.xe use Qf (.ref D) s3.heap.objs.size) { s3 with heap := pushCells (s3.heap.push { cls := .type "dict", data := .dict #[] }) scope.names }
  have fB : ∀ b ∈ fp, (upd H2 D (.dT [])) b = none := fun b hb => (f3 b hb).1.1
  generalize eH : upd H2 D (.dT []) = H3 at *
  generalize ec : compEnvC scope cl s3.heap.objs.size X.env = ce at *
  have cL : ce.locals = s3.heap.objs.size := by subst ec; rfl
  generalize e4 : ({ s3 with heap := pushCells (s3.heap.push { cls := .type "dict", data := .dict #[] }) scope.names } : Shared) = s4 at *
  have kp4 : ∀ b o, s3.heap.get? b = some o → s4.heap.get? b = some o := fun b o e => by rw [← e4]; exact pushCells_keeps _ _ _ _ (Heap.get?_push_of_some _ e)
  have I4 : Inv (X.blk s3 H3 scope ce fp) [] (wipe σ (own.map (·.2))) H3 s4 := B0
  have st4 : tn 0 s4.heap := T.keep _ _ _ st3 fun b _ o e => kp4 b o e
  have still : ∀ {σ' : L2.St} {H' : Hp} {s' : Shared}, Inv (X.blk s3 H3 scope ce fp) [] σ' H' s' → (∀ b ∈ fp, H' b = none) → ∀ b ∈ fp, FpOk (X.blk s3 H3 scope ce fp) [] H' b := fun I' hn b hb =>
    ⟨hn b hb, (I'.ok.exf b hb).1, I'.ok.exfs b hb, .inl hb, (I'.ok.exf b hb).2, fun q hq => absurd (show q ∈ ([] : List (Addr × Obj)) from hq) (by simp)⟩
  have loop : codeAny (model X.prog X.w) X.A (.compLoop (.DictComp kx vx [⟨tg, iter, ifs, 0⟩] scope pos) 0 (.ref it) (.ref D) ce) (compPost (model X.prog X.w) X.A X.xe use Qf (.ref D) s3.heap.objs.size) s4 := by
    refine compLoop_anyD (fun n s' => ∃ i H', Inv (X.blk s3 H3 scope ce fp) [] (wipe σ (own.map (·.2))) H' s' ∧ tn i s'.heap ∧ (∀ b ∈ fp, H' b = none) ∧ W i n H') ?_ m0 ⟨0, H3, I4, st4, fB, w0⟩
    rintro n s5 ⟨i, H5, I5, st5, n5, w5⟩
    rcases turn i n H5 w5 with ⟨stop, qq⟩ | ⟨go, Nx, hNx, step⟩
    · refine thnF (T.done (X.blk s3 H3 scope ce fp) rfl rfl rfl hc i [] s5 _ H5 (fun _ _ => False) I5 (still I5 n5) st5 stop) fun r s6 ⟨hr, I6⟩ => ?_
      subst hr
      have I7 : Inv X pins σ H5 s6 := I3.call' (ch := fp) I6.os I6.base I6.hok I6.bare fun b hb => ⟨(f3 b hb).1.2.2.2.1, (f3 b hb).1.2.1, (f3 b hb).1.2.2.2.2.1, (f3 b hb).1.2.2.2.2.2⟩
      have nC : H5 s3.heap.objs.size = none := by
        rw [← cL]
        exact I6.free
      obtain ⟨m, hn, _⟩ := I6.loc
      exact hRR D _ s6 m H5 I7 qq (by rw [← cL]; exact hn) (I3.fpOk (H' := H5) (Nat.le_refl _) nC)
    · refine thnF (T.item (X.blk s3 H3 scope ce fp) rfl rfl rfl hc i [] s5 _ H5 (fun _ _ => False) I5 (still I5 n5) st5 go) fun r s6 ⟨u, hr, h6⟩ => ?_
      subst hr
      refine thnF h6 fun _ s7 ⟨x, H7, I7, r7, y7, st7, n7⟩ => ?_
      refine thnF (pg.run _ s7 _ H7 x u _ (I7.pinned (still I7 n7) (T.obj _ _ st7)) r7 (step x H7 y7)) fun _ s8 ⟨σ8, H8, I8, hw8, q8⟩ => ?_
      refine thnF (pt.run _ s8 σ8 H8 _ I8 q8) fun b s9 ⟨H9, I9, q9⟩ => ?_
      have next : ∀ {s' : Shared} {H' : Hp}, Inv (X.blk s3 H3 scope ce fp) ([] ++ pinsAt fp s7.heap) σ8 H' s' → Nx H' → ∃ m, m < n ∧ ∃ i H', Inv (X.blk s3 H3 scope ce fp) [] (wipe σ (own.map (·.2))) H' s' ∧ tn i s'.heap ∧ (∀ b ∈ fp, H' b = none) ∧ W i m H' := fun {s' H'} I' nx => by
        obtain ⟨m', hm, w'⟩ := hNx H' nx
        have at7 : ∀ b ∈ fp, ∀ o, s7.heap.get? b = some o → s'.heap.get? b = some o ∧ H' b = none := fun b hb o e =>
          have z := I'.pin (b, o) (List.mem_append_right _ (List.mem_append_right _ (mem_pinsAt hb e)))
          ⟨z.1, z.2.1⟩
        refine ⟨m', hm, i + 1, H', (I'.unpinned (pins := [])).weak (by rw [← hw8, wipe_length]) (fun j v e => (wipe_some (hw8 ▸ e)).1), T.keep _ _ _ st7 fun b hb o e => (at7 b hb o e).1, fun b hb => ?_, w'⟩
        obtain ⟨o, e, _⟩ := T.obj _ _ st7 b hb
        exact (at7 b hb o e).2
      cases b with
      | false => exact next I9 q9
      | true =>
        refine thnF (pk.run _ s9 σ8 H9 _ I9 q9) fun z s10 ⟨yk, H10, I10, r10, q10⟩ => ?_
        refine thnF (pe.run _ s10 σ8 H10 _ I10 q10) fun z2 s11 ⟨yv, H11, I11, r11, kvs, k, b, ek, eb, hD11, hz11, nx⟩ => ?_
        subst ek
        exact dset_T (X := X.blk s3 H3 scope ce fp) hu I11 hD11 eb hz11 r10 r11 fun s12 I12 => next I12 nx
  exact codeAny_compStart_dict loop (T.self X.A 0 _ _ _ st4 loop)

theorem ps_setDcT {i : Nat} {y : Str} {py : Pos} {spos : Pos} {kx vx tg iter : Expr} {ifs : List Expr} {scope : Scope} {own : List (Str × Nat)} {pos : Pos} {wi : TI} {g : TG} {tt : TT} {tk tv : TE} (hy : X.N[i]? = some y) (hyl : X.env.scope.names.lookup y = some .local) (hsw : swapsWith (.DictComp kx vx [⟨tg, iter, ifs, 0⟩] scope pos) (some (.Name y py)) spos.line X.env = pure true) (hu : X.A.units + 1 < cLine) (hc : X.calm = true) (hN : X.N.Nodup) (hi : PI X tg iter wi) (ok : BlkOk X.N X.env.scope scope own)
    (hg : ∀ (s : Shared) (H : Hp) (C : Addr) (cl : List (Str × Addr)) (fp : List Addr), PG (X.blk s H scope (compEnvC scope cl C X.env) fp) tg g) (ht : ∀ (s : Shared) (H : Hp) (C : Addr) (cl : List (Str × Addr)) (fp : List Addr), PTs (X.blk s H scope (compEnvC scope cl C X.env) fp) ifs tt)
    (hk : ∀ (s : Shared) (H : Hp) (C : Addr) (cl : List (Str × Addr)) (fp : List Addr), PE (X.blk s H scope (compEnvC scope cl C X.env) fp) kx tk) (he : ∀ (s : Shared) (H : Hp) (C : Addr) (cl : List (Str × Addr)) (fp : List Addr), PE (X.blk s H scope (compEnvC scope cl C X.env) fp) vx tv) (hs : ∀ x, foldedSetIterable iter X.env x = pure x := by intro _; rfl) :
    PS X (.Assign [.Name y py] (.DictComp kx vx [⟨tg, iter, ifs, 0⟩] scope pos) spos) (tAsg (tDcT wi g tt tk tv (own.map (·.2))) (gName i)) := by
  refine ⟨fun pins s σ H D I h => ?_⟩
  rw [exec_Assign_Name_used _ _ _ _ hsw]
  refine wpAny_bind (wpAny_standAt (wpAny_bind ?_))
  show wpAny _ X.A (do let _ ← comprehension (.DictComp kx vx [⟨tg, iter, ifs, 0⟩] scope pos) scope X.env (firstIterPos [⟨tg, iter, ifs, 0⟩] pos) newDict false (eval iter X.env) (some (assign (.Name y py) X.env))) _ _ s
  have h : tDcT wi g tt tk tv (own.map (·.2)) σ H (fun x H1 => gName i x σ H1 D.nx) := h
  refine wpAny_bind (thn (dc_coreT (Qf := fun _ s' => SP X pins D .next s') I hu hc hN hi ok hg ht hk he hs h fun L C s' m H' I' q hn f => ?_) fun _ s' hq => wpAny_pure (wpAny_pure hq))
  show wpAny _ _ (assign (.Name y py) X.env (.ref L)) _ _ _
  refine wpAny_assign_Name (store_ok2 (v := V.ref L) I' hN hy (.inl hyl) rfl (fun s2 I2 ⟨a, sb, ha⟩ => ?_) (.inr hyl))
  obtain ⟨f0, f1, f2, f3, f4, f5⟩ := f
  have haC : C ≠ a := by
    rcases ha with z | z
    · rw [z]; exact f1
    · exact fun e => f4 y a z e.symm
  refine ⟨m, hn.sameBut sb haC, fun h3 sb3 => ?_⟩
  exact ⟨_, H', I2.turned (t' := s2.toks) (fun b o hb e => (sb3.2 b hb).trans e) f0 f1 f3 f4 f5, q⟩
theorem sw_trueD {kx vx : Expr} {gs : List Comprehension} {scope : Scope} {pos py : Pos} {y : Str} {l : Nat} {env : Env} (hk : env.scope.kind = .function) (hy : env.scope.names.lookup y = some .local) (hl : (py.line == pos.line) = true)
    (ha : (scope.names.any fun (n, k) => n == y && (k == .local || k == .cell)) = false) : swapsWith (.DictComp kx vx gs scope pos) (some (.Name y py)) l env = pure true := by
  have ky : env.kindOf y = some .local := hy
  have hb : env.blockKind = .function := by unfold Env.blockKind; rw [hk]; rfl
  unfold swapsWith
  simp only [hb, ky, ha, Expr.pos, hl]
  rfl
end
end Mz

set_option Elab.async false
set_option linter.all false
set_option maxRecDepth 100000
set_option maxHeartbeats 4000000
/-! for k, v in d.items(): d a dict with tuples as keys -/
namespace Mz
open PySem PySem.Spec PyProof.Rows L2
section
variable {X : Cx} {pins : List (Addr × Obj)} {σ : L2.St} {H : Hp} {s : Shared} {d : Addr} {o : Obj}
theorem frzT2 {kvs : List (List L2.Key × V)} (I : Inv X pins σ H s) (h : H d = some (.frz o (.dT kvs))) :
    (d == sysModules) = false ∧ s.heap.get? d = some o ∧ o.ExactDict ∧ ∃ (es : Array DictEntry) (ep : Nat), o.data = .dict es ep ∧ es.size = kvs.length ∧
      ∀ (i : Nat) (k : List L2.Key) (v : V), kvs[i]? = some (k, v) → ∃ (en : DictEntry) (q : Addr), es[i]? = some en ∧ en.key = .ref q ∧ H q = some (.tup (k.map kV)) ∧ RelV v en.val := by
  obtain ⟨hd, z, hs, xs, pr, o', es, ep, ho, hx, hdt, he, _⟩ := I.hok d _ h
  rw [hd] at ho
  cases ho
  refine ⟨hs, hd, hx, es, ep, hdt, ?_, fun i k v e => ?_⟩
  · have l1 : es.size = xs.length := size_of_entries he
    have l2 : kvs.length = xs.length := Paired.length pr
    omega
  · obtain ⟨b, hb, e1, e2, e3⟩ := paired_get pr e
    have q := entry_at he i
    rw [hb] at q
    exact ⟨_, b.2.1, q, rfl, e2, e3⟩
end
/-- the pairs, each a new tuple of the key's own tuple and the value -/
def Itit (d : Addr) (o : Obj) (kvs : List (List L2.Key × V)) : It :=
  ⟨fun i H => H d = some (.frz o (.dT kvs)) ∧ i < kvs.length, fun i H x H' => ∃ (T q : Addr) (k : List L2.Key) (v : V), kvs[i]? = some (k, v) ∧ H q = some (.tup (k.map kV)) ∧ x = .ref T ∧ H T = none ∧ H' = upd H T (.tup [.ref q, v]), fun i H => H d = some (.frz o (.dT kvs)) ∧ kvs.length ≤ i⟩
section
variable {P : Program} {w : World} {K : PySem.W.Frag} {tg : Expr} {d : Addr} {o : Obj} {es : Array DictEntry} {ep : Nat}
theorem turn_itemsT {kvs : List (List L2.Key × V)} {elts : List Expr} {kk : Nat} {tpos : Pos} (it : Addr) (hod : o.data = .dict es ep) :
    Turn P w K (.Tuple elts kk tpos) (Itit d o kvs) [it] it (fun i h => ∃ ok ov, IsItemIter h it d i kvs.length ep ok ov) where
  mem := by simp
  obj := fun i h st b hb => by
    have e : b = it := by simpa using hb
    subst e
    obtain ⟨ok, ov, e⟩ := st
    exact ⟨_, e, fun v z => nomatch z⟩
  keep := fun i h h' st k => let ⟨ok, ov, e⟩ := st; ⟨ok, ov, k it (by simp) _ e⟩
  item := by
    intro X hP hw hK hc i pins s σ H E I hf st hg
    subst hP hw hK
    obtain ⟨hd, hi⟩ := hg
    obtain ⟨hs, hgd, hx, es', ep', hdt, hsz, ent⟩ := frzT2 I hd
    obtain ⟨rfl, rfl⟩ := dict_ep hod hdt
    obtain ⟨⟨k, v⟩, hkv⟩ : ∃ p, kvs[i]? = some p := ⟨kvs[i], List.getElem?_eq_getElem hi⟩
    obtain ⟨en, q, hen, hkey, hq, rv⟩ := ent i k v hkv
    obtain ⟨ok, ov, he⟩ := st
    have hlt : it < s.heap.objs.size := Heap.lt_size he
    have hi2 : i < es'.size := by omega
    have een : es'[i] = en := by
      rw [Array.getElem?_eq_getElem hi2] at hen
      exact Option.some.inj hen
    rw [← hsz] at he
    refine wpAny_pyNext_items_item_raw he ⟨o, hgd, hx, hdt⟩ hi2 fun h' ho hT hz hk => ?_
    rw [een] at ho hT
    refine ⟨_, rfl, wpAny_letOwnedTupleGo_items (s := { s with heap := h' }) ho fun h'' he' sb => ?_⟩
    have hT2 : h''.get? s.heap.objs.size = some { cls := .type "tuple", data := .seq #[en.key, en.val] } := (sb.2 _ (Nat.ne_of_gt hlt)).trans hT
    have new : ObjOk X.prog X.w (upd H s.heap.objs.size (.tup [.ref q, v])) h'' s.heap.objs.size (.tup [.ref q, v]) :=
      ⟨by show 2 ≤ sizeLine; decide, [en.key, en.val], .cons hkey (.cons rv .nil), ⟨_, hT2, rfl, _, rfl⟩⟩
    have I1 : Inv X pins σ (upd H s.heap.objs.size (.tup [.ref q, v])) { s with heap := h'' } :=
      I.turnedNew (t' := s.toks) (ch := [it]) (fun b ob hb e => (sb.2 b (by simpa using hb)).trans (hk b ob (by simpa using hb) e)) hf (Nat.le_refl _) new
    refine ⟨.ref s.heap.objs.size, _, I1, rfl, ⟨_, q, k, v, hkv, hq, rfl, I.hok.fresh (Nat.le_refl _), rfl⟩, ⟨en.key, en.val, ?_⟩, fun b hb => ?_⟩
    · rw [← hsz]; exact he'
    · have e : b = it := by simpa using hb
      rw [e, upd_ne (Nat.ne_of_lt hlt)]
      exact (hf it (by simp)).1
  done := by
    intro X hP hw hK hc i pins s σ H E I hf st hg
    subst hP hw hK
    obtain ⟨hd, hi⟩ := hg
    obtain ⟨f0, f1, f2, f3, f4, f5⟩ := hf it (by simp)
    obtain ⟨hs, hgd, hx, es', ep', hdt, hsz, ent⟩ := frzT2 I hd
    obtain ⟨rfl, rfl⟩ := dict_ep hod hdt
    obtain ⟨ok, ov, he⟩ := st
    rw [← hsz] at he
    exact wpAny_pyNext_items_end_raw (I.ok.hd hc) he ⟨o, hgd, hx, hdt⟩ (by omega) fun h' eb => ⟨rfl, I.turned (t' := s.toks) (fun b ob hb e => eb b ob hb e) f0 f1 f3 f4 f5⟩
  self := fun A i s Q E st h => let ⟨_, _, e⟩ := st; PySem.W.kcp_self e h
end
/-- the dict is locked (tLock, or by the caller) -/
def iItemsT (td : TE) : TI := fun σ H R => td σ H fun x H1 => ∃ d o kvs, x = .ref d ∧ H1 d = some (.frz o (.dT kvs)) ∧ R (Itit d o kvs) H1
section
variable {X : Cx} {tg e : Expr} {td : TE} {apos cpos : Pos}
theorem pi_itemsT {elts : List Expr} {kk : Nat} {tpos : Pos} (he : PE X e td) (hbase : attributeBase e "items" X.env (eval e X.env) = eval e X.env := by rfl) (hline : (apos.endLine == cpos.line) = true := by rfl) :
    PI X (.Tuple elts kk tpos) (.Call (.Attribute e "items" apos) [] [] cpos) (iItemsT td) := by
  refine ⟨fun pins s σ H R I h => ?_⟩
  refine wpAny_Call_method (T := "dict") (id := "dict.items") hbase rfl hline F.plainAttrs_dict F.slot_dict_items F.type_dict_items (thn (he.run pins s σ H _ I h) fun u s1 ⟨x, H1, I1, rx, d, o, kvs, ex, hd, q⟩ => ?_)
  subst ex
  obtain rfl : u = Value.ref d := rx
  obtain ⟨hs, hgd, hx, es, ep, hdt, hsz, ent⟩ := frzT2 I1 hd
  have hraw : s1.heap.DictRaw d es ep := ⟨o, hgd, hx, hdt⟩
  refine ⟨hraw.typeIs, fun a e => by cases e; exact ⟨o, hgd, hx.2.1⟩, ?_⟩
  have I2 : Inv X pins σ H1 { s1 with heap := s1.heap.push { cls := .type "dict_items", data := .fields #[.ref d] } } := I1.kept (t' := s1.toks) fun b ob q => Heap.get?_push_of_some _ q
  have fin : wpAny (model X.prog X.w) X.A (pyIter (.ref s1.heap.objs.size)) (PIE X pins σ (.Tuple elts kk tpos) R) X.xe { s1 with heap := s1.heap.push { cls := .type "dict_items", data := .fields #[.ref d] } } := by
    refine wpAny_pyIter_items_raw (d := d) ⟨_, Heap.get?_push_size _ rfl, rfl, rfl⟩ (hraw.at fun o q => Heap.get?_push_of_some _ q) (pi_one (tk := s1.toks) I2 _ (turn_itemsT _ hdt) ⟨.none, .none, ?_⟩ q)
    rw [← hsz]
    exact Heap.get?_push_size _ rfl
  show wpAny _ _ (callWith cpos (.builtin "dict.items") [.ref d] [] []) _ X.xe s1
  exact method_meetsIn F.slot_dict_items F.entry_dict_items rfl (PySem.evalArgs_none ⟨rfl, hraw.typeIs, F.args_dict_items_1 _, _, meets_dict_items_raw d hs, ⟨es, ep, hraw⟩, fin⟩)
end
section
variable {d : Addr} {o : Obj}
theorem walk_itemsT {kvs : List (List L2.Key × V)} : Walk (Itit d o kvs) kvs.length (fun H => H d = some (.frz o (.dT kvs)))
    (fun i H x H' => ∃ (T q : Addr) (k : List L2.Key) (v : V), kvs[i]? = some (k, v) ∧ H q = some (.tup (k.map kV)) ∧ x = .ref T ∧ H T = none ∧ H' = upd H T (.tup [.ref q, v])) :=
  ⟨fun _ _ hi q => ⟨q, hi⟩, fun _ q => ⟨q, Nat.le_refl _⟩, fun _ _ _ _ _ _ y => y⟩
end
end Mz

set_option Elab.async false
set_option linter.all false
set_option maxRecDepth 100000
set_option maxHeartbeats 4000000
/-! dicts from (int, (ints)) to ints, further: read, in, get, items, a comprehension -/
namespace Mz
open PySem PySem.Spec PyProof.Rows L2
/-- such a dict, tracked or locked -/
structure NestR (P : Program) (w : World) (H : Hp) (d : Addr) (kvs : List (PK × Int)) : Prop where
  ex : ∃ xs : List Ent, (H d = some (NestO P w d xs) ∨ ∃ o, H d = some (.frz o (NestO P w d xs))) ∧ (∀ x ∈ xs, KeyAt H x.2.1 x.1) ∧ Paired (fun (kv : PK × Int) x => kv.1 = x.1 ∧ ∃ t, x.2.2 = Value.int kv.2 t) kvs xs
theorem NestD.r {P : Program} {w : World} {H : Hp} {d : Addr} {kvs : List (PK × Int)} (n : NestD P w H d kvs) : NestR P w H d kvs := by
  obtain ⟨xs, e, ks, r⟩ := n.ex
  exact ⟨xs, .inl e, ks, r⟩
theorem NestR.same {P : Program} {w : World} {H H' : Hp} {d : Addr} {kvs : List (PK × Int)} (n : NestR P w H d kvs) (s : Same H H') : NestR P w H' d kvs := by
  obtain ⟨xs, e, ks, r⟩ := n.ex
  exact ⟨xs, e.imp (s _ _) fun ⟨o, e⟩ => ⟨o, s _ _ e⟩, fun x hx => (ks x hx).same s, r⟩
theorem nest_rd {P : Program} {w : World} {H : Hp} {h : Heap} {d : Addr} (ok : HOk P w H h) {xs : List Ent} (e : H d = some (NestO P w d xs) ∨ ∃ o, H d = some (.frz o (NestO P w d xs))) (ks : ∀ x ∈ xs, KeyAt H x.2.1 x.1) : (d == sysModules) = false ∧ xs.length ≤ sizeLine ∧ h.DictOfH (nestedKind P w) d (xs.map rawE) := by
  rcases e with e | ⟨o, e⟩
  · exact nest_of ok e ks
  · obtain ⟨_, ⟨a, b, o, es, ep, h1, h2, h3, h4, h5⟩, _⟩ := (show ObjOk P w H h d (.frz o (NestO P w d xs)) from ok d _ e)
    refine ⟨a, b, o, es, ep, h1, h2, h3, h4, fun x hx => ?_, nest_nodup h5⟩
    obtain ⟨y, hy, rfl⟩ := List.mem_map.mp hx
    exact key_nest ok (ks y hy)
theorem hu8 {k : Nat} {A : Around} (hu : A.units + 10 < cLine) : A.in1.units + 8 < cLine := by
  show A.units + 1 + 8 < cLine
  omega
theorem atKey_some {kvs : List (PK × Int)} {xs : List Ent} {p : PK} (r : Paired (fun (kv : PK × Int) x => kv.1 = x.1 ∧ ∃ t, x.2.2 = Value.int kv.2 t) kvs xs) : (atKey (xs.map rawE) (nk p)).isSome = (findK kvs p).isSome := by
  cases f : findK kvs p with
  | none =>
    rw [(findK_at r).2 f]
    rfl
  | some v =>
    obtain ⟨b, t, f2⟩ := (findK_at r).1 v f
    rw [f2]
    rfl
/-! ### in -/
def tInN (P : Program) (w : World) (ty td : TE) : TE := fun σ H Q => ty σ H fun y H1 => td σ H1 fun x H2 => ∃ (d a : Addr) (kvs : List (PK × Int)) (p : PK), x = .ref d ∧ y = .ref a ∧ NestR P w H2 d kvs ∧ KeyAt H2 a p ∧ Q (.bl (findK kvs p).isSome) H2
theorem pc_dinN {X : Cx} {i o : Expr} {ty td : TE} (hu : X.A.units + 10 < cLine) (hi : PE X i ty) (ho : PE X o td) : PC X .In i o (tInN X.prog X.w ty td) := by
  refine ⟨fun pins s σ H Q I h => ?_⟩
  refine thn (hi.run pins s σ H _ I h) fun iv s1 ⟨y, H1, I1, ry, q1⟩ => thn (ho.run pins s1 σ H1 _ I1 q1) fun u s2 ⟨x, H2, I2, rx, d, a, kvs, p, ex, ey, n, ka, q2⟩ => ?_
  subst ex ey
  obtain rfl : u = Value.ref d := rx
  obtain rfl : iv = Value.ref a := ry
  obtain ⟨xs, e, ks, r⟩ := n.ex
  obtain ⟨hd, _, D⟩ := nest_rd I2.hok e ks
  refine wpAny_in_heap (knd := nestedKind X.prog X.w) (hu8 (k := 0) hu) (key_nest I2.hok ka) hd D ?_
  rw [atKey_some r]
  exact ⟨.bl _, H2, I2.tok _, rfl, q2⟩
/-! ### get with a default -/
def tGet2N (P : Program) (w : World) (td ty tx : TE) : TE := fun σ H Q => td σ H fun x H1 => ∃ (d : Addr) (kvs : List (PK × Int)), x = .ref d ∧ NestR P w H1 d kvs ∧ ty σ H1 fun y H2 => tx σ H2 fun z H3 => ∃ (a : Addr) (p : PK) (n : Int), y = .ref a ∧ z = .int n ∧ NestR P w H3 d kvs ∧ KeyAt H3 a p ∧ Q (.int ((findK kvs p).getD n)) H3
theorem pe_dget2N {X : Cx} {o e f : Expr} {td ty tx : TE} {apos cpos : Pos} (hu : X.A.units + 10 < cLine) (ho : PE X o td) (he : PE X e ty) (hf : PE X f tx) (m : M2 X o "get" apos e f cpos) : PE X (.Call (.Attribute o "get" apos) [e, f] [] cpos) (tGet2N X.prog X.w td ty tx) := by
  refine ⟨fun pins s σ H Q I h => ?_⟩
  refine wpAny_Call_method m.base m.few m.line PySem.F.plainAttrs_dict PySem.F.slot_dict_get PySem.F.type_dict_get (thn (ho.run pins s σ H _ I h) fun u s1 ⟨x, H1, I1, rx, d, kvs, ex, n1, q1⟩ => ?_)
  subst ex
  obtain rfl : u = Value.ref d := rx
  obtain ⟨xs1, e1, ks1, _⟩ := n1.ex
  obtain ⟨_, _, D1⟩ := nest_rd I1.hok e1 ks1
  refine ⟨D1.typeIs, fun b q => ?_, ?_⟩
  · cases q
    obtain ⟨ob, _, _, k1, k2, _⟩ := D1
    exact ⟨ob, k1, k2.2.1⟩
  rw [m.trees]
  refine Calls.callWith_builtin rfl (Calls.evalArgs_plain (Calls.spliced_cons (thn (he.run pins s1 σ H1 _ I1 q1) fun iv s2 ⟨y, H2, I2, ry, q2⟩ =>
    Calls.spliced_cons (thn (hf.run pins s2 σ H2 _ I2 q2) fun fv s3 ⟨z, H3, I3, rz, a, p, k, ey, ez, n3, ka, q3⟩ => Calls.spliced_nil ?_))))
  subst ey ez
  obtain rfl : iv = Value.ref a := ry
  obtain ⟨xs, e3, ks, r⟩ := n3.ex
  obtain ⟨hd, _, D⟩ := nest_rd I3.hok e3 ks
  refine call_meetsIn PySem.F.slot_dict_get D.typeIs PySem.F.entry_dict_get (PySem.F.args_dict_get_3 _ _ _) (meetsH_dict_get_default (nestedKind X.prog X.w) d a hd fv) ⟨hu8 (k := 0) hu, nk p, _, key_nest I3.hok ka, D, ?_⟩
  cases f : findK kvs p with
  | none =>
    rw [(findK_at r).2 f]
    rw [f] at q3
    exact ⟨.int k, H3, I3.tok _, rz, q3⟩
  | some v =>
    obtain ⟨b, t, f2⟩ := (findK_at r).1 v f
    rw [f2]
    rw [f] at q3
    exact ⟨.int v, H3, I3.tok _, ⟨t, rfl⟩, q3⟩
/-! ### a comprehension -/
theorem nest_empty {X : Cx} {s2 : Shared} {H2 : Hp} {D : Addr} (big : sysModules < s2.heap.objs.size) (eD : s2.heap.objs.size = D) : ObjOk X.prog X.w (upd H2 D (NestO X.prog X.w D [])) (s2.heap.push { cls := .type "dict", data := .dict #[] }) D (NestO X.prog X.w D []) := by
  subst eD
  exact nest_ok (beq_eq_false_iff_ne.mpr (Ne.symm (Nat.ne_of_lt big))) (Nat.zero_le _) List.nodup_nil ⟨_, #[], 0, Heap.get?_push_size _ rfl, ⟨rfl, rfl, rfl⟩, rfl, rfl, fun x hx => absurd hx (by simp), List.nodup_nil⟩
theorem upd_key {P : Program} {w : World} {H : Hp} {d b : Addr} {o u : HO} {p : PK} (hd : H d = some u) (n : ∀ xs, u ≠ .tup xs) (k : KeyAt H b p) : KeyAt (upd H d o) b p := by
  obtain ⟨c, k1, k2⟩ := k
  have e : ∀ {a : Addr} {xs : List V}, H a = some (.tup xs) → (upd H d o) a = some (.tup xs) := fun {a xs} q => (upd_ne fun z => by
    rw [z, hd] at q
    exact n _ (Option.some.inj q)).trans q
  exact ⟨c, e k1, e k2⟩
theorem paired_keys {kvs : List (PK × Int)} {xs : List Ent} (r : Paired (fun (kv : PK × Int) x => kv.1 = x.1 ∧ ∃ t, x.2.2 = Value.int kv.2 t) kvs xs) : kvs.map (·.1) = xs.map (·.1) := by
  induction r with
  | nil => rfl
  | cons h _ ih =>
    rw [List.map_cons, List.map_cons, h.1, ih]
theorem find_all {p : PK} {v : Int} : ∀ {kvs : List (PK × Int)}, (kvs.map (·.1)).Nodup → findK kvs p = some v → ∀ kv ∈ kvs, kv.1 = p → kv.2 = v
  | [], _, h, _, _, _ => by cases h
  | x :: kvs, nd, h, kv, hk, e => by
    rw [List.map_cons, List.nodup_cons] at nd
    by_cases c : x.1 = p
    · have e1 : findK (x :: kvs) p = some x.2 := by simp [findK, List.find?_cons, c]
      rw [e1] at h
      rcases List.mem_cons.mp hk with z | z
      · rw [z]
        exact Option.some.inj h
      · exact absurd (List.mem_map.mpr ⟨kv, z, e.trans c.symm⟩) nd.1
    · have e1 : findK (x :: kvs) p = findK kvs p := by simp [findK, List.find?_cons, c]
      rw [e1] at h
      rcases List.mem_cons.mp hk with z | z
      · exact absurd (z ▸ e) c
      · exact find_all nd.2 h kv z e
/-- one more key in a dict under work; a key that is there has that value -/
theorem dset_N {X : Cx} {pins : List (Addr × Obj)} {σ : L2.St} {H : Hp} {s : Shared} {E : Value → Shared → Prop} {D b : Addr} {kvs : List (PK × Int)} {p : PK} {n : Int} {u r : Value} {Q : Unit → Shared → Prop} (hu : X.A.units + 10 < cLine) (I : Inv X pins σ H s)
    (hb : KeyAt H b p) (hD : NestD X.prog X.w H D kvs) (hz : kvs.length < sizeLine) (ry : RelV (.ref b) u) (rv : RelV (.int n) r) (fr : findK kvs p = none ∨ findK kvs p = some n)
    (h : ∀ xs s', NestD X.prog X.w (upd H D (NestO X.prog X.w D xs)) D (if findK kvs p = none then kvs ++ [(p, n)] else kvs) → Inv X pins σ (upd H D (NestO X.prog X.w D xs)) s' → Q () s') : wpAny (model X.prog X.w) X.A (dictSet D u r) Q E s := by
  obtain rfl : u = Value.ref b := ry
  obtain ⟨t, rfl⟩ := (show ∃ t, r = Value.int n t from rv)
  obtain ⟨xs, e, ks, rel⟩ := hD.ex
  obtain ⟨hd, hzx, DD⟩ := nest_of I.hok e ks
  have hlx : xs.length = kvs.length := (Paired.length rel).symm
  have key := key_nest I.hok hb
  unfold dictSet
  have room : (nestedKind X.prog X.w).room X.A := show X.A.units + 8 < cLine by omega
  refine wpAny_holding (wpAny_bind ((nestedKind X.prog X.w).pyHash room key ?_))
  refine wpAny_dictSetHashed_heap (knd := nestedKind X.prog X.w) (hsz := by rw [List.length_map]; exact hzx) room key DD fun h' D' hs => ?_
  have he : ∃ o, h'.get? D = some o := let ⟨o, _, _, k, _⟩ := D'; ⟨o, k⟩
  obtain ⟨⟨_, _, _, _, _, _, _, _, _, nod0⟩, _⟩ := (show ObjOk X.prog X.w H s.heap D (NestO X.prog X.w D xs) from I.hok D _ e)
  have kt : ∀ {ys : List Ent} {a : Addr} {q : PK}, KeyAt H a q → KeyAt (upd H D (NestO X.prog X.w D ys)) a q := fun k => upd_key (P := X.prog) (w := X.w) e (fun xs z => by cases z) k
  cases f : findK kvs p with
  | none =>
    have hn := (findK_at rel).2 f
    have e1 : storedH (xs.map rawE) (nk p) b (Value.int n t) = (xs ++ [(p, b, Value.int n t)]).map rawE := by
      rw [storedH_new hn, List.map_append]
      rfl
    rw [e1] at D'
    have nod : ((xs ++ [(p, b, Value.int n t)]).map (·.1)).Nodup := by
      rw [List.map_append]
      refine List.nodup_append.mpr ⟨nod0, by simp, fun y hy q hq => ?_⟩
      simp at hq
      rw [hq]
      rintro rfl
      obtain ⟨x, hx, e3⟩ := List.mem_map.mp hy
      unfold atKey at hn
      rw [Option.map_eq_none_iff, List.find?_eq_none] at hn
      have := hn (rawE x) (List.mem_map.mpr ⟨x, hx, rfl⟩)
      simp [rawE, e3] at this
    have hz2 : (xs ++ [(p, b, Value.int n t)]).length ≤ sizeLine := by
      rw [List.length_append, List.length_singleton]
      omega
    refine h (xs ++ [(p, b, Value.int n t)]) _ ?_ (d_write (t' := s.toks + (nestedKind X.prog X.w).draws (nk p)) (I.tok _) (by rw [e]; exact True.intro) hs he (nest_ok hd hz2 nod D'))
    rw [f, if_pos rfl]
    refine ⟨_, upd_same, fun x hx => ?_, ?_⟩
    · rcases List.mem_append.mp hx with q | q
      · exact kt (ks x q)
      · rw [List.mem_singleton.mp q]
        exact kt hb
    · have app : ∀ {l1 : List (PK × Int)} {l2 : List Ent}, Paired (fun (kv : PK × Int) (x : Ent) => kv.1 = x.1 ∧ ∃ t, x.2.2 = Value.int kv.2 t) l1 l2 → Paired (fun (kv : PK × Int) (x : Ent) => kv.1 = x.1 ∧ ∃ t, x.2.2 = Value.int kv.2 t) (l1 ++ [(p, n)]) (l2 ++ [(p, b, Value.int n t)]) := by
        intro l1 l2 hp
        induction hp with
        | nil => exact .cons ⟨rfl, t, rfl⟩ .nil
        | cons h _ ih => exact .cons h ih
      exact app rel
  | some v =>
    obtain rfl : v = n := by
      rcases fr with q | q
      · rw [q] at f
        cases f
      · rw [q] at f
        exact (Option.some.inj f).symm
    obtain ⟨a, t0, hn⟩ := (findK_at rel).1 v f
    have e1 : storedH (xs.map rawE) (nk p) b (Value.int v t) = (xs.map fun x => if x.1 = p then (x.1, x.2.1, Value.int v t) else x).map rawE := by
      rw [storedH_old hn, List.map_map, List.map_map]
      refine List.map_congr_left fun x _ => ?_
      show putAt (nk p) (Value.int v t) (rawE x) = rawE (if x.1 = p then (x.1, x.2.1, Value.int v t) else x)
      unfold putAt
      by_cases c : x.1 = p
      · rw [if_pos c, if_pos (show (rawE x).1 = nk p from congrArg nk c)]
        rfl
      · rw [if_neg c, if_neg (show ¬ (rawE x).1 = nk p from fun z => c (nk_inj z))]
    rw [e1] at D'
    have same1 : (xs.map fun x => if x.1 = p then (x.1, x.2.1, Value.int v t) else x).map (·.1) = xs.map (·.1) := by
      rw [List.map_map]
      refine List.map_congr_left fun x _ => ?_
      show (if x.1 = p then (x.1, x.2.1, Value.int v t) else x).1 = x.1
      split <;> rfl
    refine h (xs.map fun x => if x.1 = p then (x.1, x.2.1, Value.int v t) else x) _ ?_ (d_write (t' := s.toks + (nestedKind X.prog X.w).draws (nk p)) (I.tok _) (by rw [e]; exact True.intro) hs he (nest_ok hd (by rw [List.length_map]; exact hzx) (by rw [same1]; exact nod0) D'))
    rw [f, if_neg (fun z => by cases z)]
    refine ⟨_, upd_same, fun x hx => ?_, ?_⟩
    · obtain ⟨y, hy, rfl⟩ := List.mem_map.mp hx
      have := kt (ys := xs.map fun x => if x.1 = p then (x.1, x.2.1, Value.int v t) else x) (ks y hy)
      show KeyAt _ (if y.1 = p then (y.1, y.2.1, Value.int v t) else y).2.1 (if y.1 = p then (y.1, y.2.1, Value.int v t) else y).1
      split <;> exact this
    · have fv : ∀ kv ∈ kvs, kv.1 = p → kv.2 = v := find_all (by rw [paired_keys rel]; exact nod0) f
      have app : ∀ {l1 : List (PK × Int)} {l2 : List Ent}, (∀ kv ∈ l1, kv.1 = p → kv.2 = v) → Paired (fun (kv : PK × Int) (x : Ent) => kv.1 = x.1 ∧ ∃ t, x.2.2 = Value.int kv.2 t) l1 l2 → Paired (fun (kv : PK × Int) (x : Ent) => kv.1 = x.1 ∧ ∃ t, x.2.2 = Value.int kv.2 t) l1 (l2.map fun x => if x.1 = p then (x.1, x.2.1, Value.int v t) else x) := by
        intro l1 l2 hv hp
        induction hp with
        | nil => exact .nil
        | @cons kv x l1 l2 h _ ih =>
          refine .cons ?_ (ih fun kv hkv => hv kv (.tail _ hkv))
          dsimp only
          by_cases c : x.1 = p
          · rw [if_pos c]
            exact ⟨h.1, t, by rw [hv kv (.head _) (h.1.trans c)]⟩
          · rw [if_neg c]
            exact h
      exact app fv rel
def tDcN (P : Program) (w : World) (wi : TI) (g : TG) (tt : TT) (tk tv : TE) (ns : List Nat) : TE := fun σ H Q => wi σ H fun J H1 => ∀ D, H1 D = none →
  ∃ W : Nat → Nat → Hp → Prop, (∃ m, W 0 m (upd H1 D (NestO P w D []))) ∧ ∀ i m H, W i m H →
    (J.stop i H ∧ Q (.ref D) H) ∨
    (J.go i H ∧ ∃ Nx : Hp → Prop, (∀ H', Nx H' → ∃ m', m' < m ∧ W (i + 1) m' H') ∧
      ∀ x H', J.yld i H x H' → g x (wipe σ ns) H' fun σ2 H2 => wipe σ2 ns = wipe σ ns ∧
        tt σ2 H2 fun c H3 => if c = true then (tk σ2 H3 fun y H4 => tv σ2 H4 fun z H5 => ∃ kvs p n b, y = .ref b ∧ z = .int n ∧ KeyAt H5 b p ∧ NestD P w H5 D kvs ∧ kvs.length < sizeLine ∧ (findK kvs p = none ∨ findK kvs p = some n) ∧
          ∀ xs, NestD P w (upd H5 D (NestO P w D xs)) D (if findK kvs p = none then kvs ++ [(p, n)] else kvs) → Nx (upd H5 D (NestO P w D xs))) else Nx H3)
section
variable {X : Cx}
theorem dc_coreN {pins : List (Addr × Obj)} {s : Shared} {σ : L2.St} {H : Hp} {Q : VK} {pos' : Pos} {use : Option (Value → Sem Unit)} {Qf : Value → Shared → Prop} (I : Inv X pins σ H s) {kx vx tg iter : Expr} {ifs : List Expr} {scope : Scope} {own : List (Str × Nat)} {pos : Pos} {wi : TI} {g : TG} {tt : TT} {tk tv : TE} (hu : X.A.units + 10 < cLine) (hc : X.calm = true) (hN : X.N.Nodup) (hi : PI X tg iter wi) (ok : BlkOk X.N X.env.scope scope own)
    (hg : ∀ (s : Shared) (H : Hp) (C : Addr) (cl : List (Str × Addr)) (fp : List Addr), PG (X.blk s H scope (compEnvC scope cl C X.env) fp) tg g) (ht : ∀ (s : Shared) (H : Hp) (C : Addr) (cl : List (Str × Addr)) (fp : List Addr), PTs (X.blk s H scope (compEnvC scope cl C X.env) fp) ifs tt)
    (hk : ∀ (s : Shared) (H : Hp) (C : Addr) (cl : List (Str × Addr)) (fp : List Addr), PE (X.blk s H scope (compEnvC scope cl C X.env) fp) kx tk) (he : ∀ (s : Shared) (H : Hp) (C : Addr) (cl : List (Str × Addr)) (fp : List Addr), PE (X.blk s H scope (compEnvC scope cl C X.env) fp) vx tv) (hs : ∀ x, foldedSetIterable iter X.env x = pure x)
    (h : tDcN X.prog X.w wi g tt tk tv (own.map (·.2)) σ H Q)
    (hRR : ∀ D C s' m H', Inv X pins σ H' s' → Q (.ref D) H' → s'.heap.Ns C m → FpOk X pins H' C → compPost (model X.prog X.w) X.A X.xe use Qf (.ref D) C (.ok .next) s') :
    wpAny (model X.prog X.w) X.A (comprehension (.DictComp kx vx [⟨tg, iter, ifs, 0⟩] scope pos) scope X.env pos' newDict false (eval iter X.env) use) Qf X.xe s := by
  have fr : ∀ y ∈ scope.names, y.2 = .free → ∃ c, X.env.cells.lookup y.1 = some c := fun y hy e => (ok.free y hy e).elim (fun k => I.ok.has _ (.inl k)) (fun k => I.ok.has _ (.inr k))
  refine wpAny_comprehension_free (use := use) rfl hs (closure_ok fr) ok.kind (fun y hy e => by rw [ok.uniq y hy, e]) (thn (hi.run pins s σ H _ I h) fun _ _ hx => thn hx fun itv s2 h2 => ?_)
  obtain ⟨it, fp, tn, J, H2, rfl, I2, T, st2, f2, q⟩ := h2
  refine wpAny_newObj_type (newEnv_comp ?_)
  generalize eD : s2.heap.objs.size = D
  obtain ⟨W, ⟨m0, w0⟩, turn⟩ := q D (I2.hok.fresh (Nat.le_of_eq eD))
  generalize e3 : ({ s2 with heap := s2.heap.push { cls := .type "dict", data := .dict #[] } } : Shared) = s3
  have hp3 : s3.heap = s2.heap.push { cls := .type "dict", data := .dict #[] } := by rw [← e3]
  have I3 : Inv X pins σ (upd H2 D (NestO X.prog X.w D [])) s3 := by
    subst e3
    exact I2.laid (t' := s2.toks) (fun b o e => Heap.get?_push_of_some _ e) (Nat.le_of_eq eD) (nest_empty I2.big eD)
  have below : ∀ b ∈ fp, b < s2.heap.objs.size := fun b hb => let ⟨_, e, _⟩ := T.obj _ _ st2 b hb; Heap.lt_size e
  have f3 : ∀ b ∈ fp, FpOk X pins (upd H2 D (NestO X.prog X.w D [])) b ∧ b < s3.heap.objs.size := fun b hb =>
    ⟨⟨(upd_ne (by rw [← eD]; exact Nat.ne_of_lt (below b hb))).trans (f2 b hb).1, (f2 b hb).2⟩, by rw [hp3, Heap.size_push]; exact Nat.lt_succ_of_lt (below b hb)⟩
  have st3 : tn 0 s3.heap := T.keep _ _ _ st2 fun b _ o e => by rw [hp3]; exact Heap.get?_push_of_some _ e
  have B0 := block_start I3 ok hN f3
  generalize ecl : cellsFrom (s3.heap.objs.size + 1) scope.names (cloFrom X.env.cells scope.names []) = cl at B0
  have pg := hg s3 (upd H2 D (NestO X.prog X.w D [])) s3.heap.objs.size cl fp
  have pt := ht s3 (upd H2 D (NestO X.prog X.w D [])) s3.heap.objs.size cl fp
  have pk := hk s3 (upd H2 D (NestO X.prog X.w D [])) s3.heap.objs.size cl fp
  have pe := he s3 (upd H2 D (NestO X.prog X.w D [])) s3.heap.objs.size cl fp
  show codeAny _ _ (.compStart (.DictComp kx vx [⟨tg, iter, ifs, 0⟩] scope pos) 0 (.ref it) (.ref D) (compEnvC scope cl s3.heap.objs.size X.env)) (compPost (model X.prog X.w) X.A X.xe use Qf (.ref D) s3.heap.objs.size) { s3 with heap := pushCells (s3.heap.push { cls := .type "dict", data := .dict #[] }) scope.names }
  have fB : ∀ b ∈ fp, (upd H2 D (NestO X.prog X.w D [])) b = none := fun b hb => (f3 b hb).1.1
  generalize eH : upd H2 D (NestO X.prog X.w D []) = H3 at *
  generalize ec : compEnvC scope cl s3.heap.objs.size X.env = ce at *
  have cL : ce.locals = s3.heap.objs.size := by subst ec; rfl
  generalize e4 : ({ s3 with heap := pushCells (s3.heap.push { cls := .type "dict", data := .dict #[] }) scope.names } : Shared) = s4 at *
  have kp4 : ∀ b o, s3.heap.get? b = some o → s4.heap.get? b = some o := fun b o e => by rw [← e4]; exact pushCells_keeps _ _ _ _ (Heap.get?_push_of_some _ e)
  have I4 : Inv (X.blk s3 H3 scope ce fp) [] (wipe σ (own.map (·.2))) H3 s4 := B0
  have st4 : tn 0 s4.heap := T.keep _ _ _ st3 fun b _ o e => kp4 b o e
  have still : ∀ {σ' : L2.St} {H' : Hp} {s' : Shared}, Inv (X.blk s3 H3 scope ce fp) [] σ' H' s' → (∀ b ∈ fp, H' b = none) → ∀ b ∈ fp, FpOk (X.blk s3 H3 scope ce fp) [] H' b := fun I' hn b hb =>
    ⟨hn b hb, (I'.ok.exf b hb).1, I'.ok.exfs b hb, .inl hb, (I'.ok.exf b hb).2, fun q hq => absurd (show q ∈ ([] : List (Addr × Obj)) from hq) (by simp)⟩
  have loop : codeAny (model X.prog X.w) X.A (.compLoop (.DictComp kx vx [⟨tg, iter, ifs, 0⟩] scope pos) 0 (.ref it) (.ref D) ce) (compPost (model X.prog X.w) X.A X.xe use Qf (.ref D) s3.heap.objs.size) s4 := by
    refine compLoop_anyD (fun n s' => ∃ i H', Inv (X.blk s3 H3 scope ce fp) [] (wipe σ (own.map (·.2))) H' s' ∧ tn i s'.heap ∧ (∀ b ∈ fp, H' b = none) ∧ W i n H') ?_ m0 ⟨0, H3, I4, st4, fB, w0⟩
    rintro n s5 ⟨i, H5, I5, st5, n5, w5⟩
    rcases turn i n H5 w5 with ⟨stop, qq⟩ | ⟨go, Nx, hNx, step⟩
    · refine thnF (T.done (X.blk s3 H3 scope ce fp) rfl rfl rfl hc i [] s5 _ H5 (fun _ _ => False) I5 (still I5 n5) st5 stop) fun r s6 ⟨hr, I6⟩ => ?_
      subst hr
      have I7 : Inv X pins σ H5 s6 := I3.call' (ch := fp) I6.os I6.base I6.hok I6.bare fun b hb => ⟨(f3 b hb).1.2.2.2.1, (f3 b hb).1.2.1, (f3 b hb).1.2.2.2.2.1, (f3 b hb).1.2.2.2.2.2⟩
      have nC : H5 s3.heap.objs.size = none := by
        rw [← cL]
        exact I6.free
      obtain ⟨m, hn, _⟩ := I6.loc
      exact hRR D _ s6 m H5 I7 qq (by rw [← cL]; exact hn) (I3.fpOk (H' := H5) (Nat.le_refl _) nC)
    · refine thnF (T.item (X.blk s3 H3 scope ce fp) rfl rfl rfl hc i [] s5 _ H5 (fun _ _ => False) I5 (still I5 n5) st5 go) fun r s6 ⟨u, hr, h6⟩ => ?_
      subst hr
      refine thnF h6 fun _ s7 ⟨x, H7, I7, r7, y7, st7, n7⟩ => ?_
      refine thnF (pg.run _ s7 _ H7 x u _ (I7.pinned (still I7 n7) (T.obj _ _ st7)) r7 (step x H7 y7)) fun _ s8 ⟨σ8, H8, I8, hw8, q8⟩ => ?_
      refine thnF (pt.run _ s8 σ8 H8 _ I8 q8) fun b s9 ⟨H9, I9, q9⟩ => ?_
      have next : ∀ {s' : Shared} {H' : Hp}, Inv (X.blk s3 H3 scope ce fp) ([] ++ pinsAt fp s7.heap) σ8 H' s' → Nx H' → ∃ m, m < n ∧ ∃ i H', Inv (X.blk s3 H3 scope ce fp) [] (wipe σ (own.map (·.2))) H' s' ∧ tn i s'.heap ∧ (∀ b ∈ fp, H' b = none) ∧ W i m H' := fun {s' H'} I' nx => by
        obtain ⟨m', hm, w'⟩ := hNx H' nx
        have at7 : ∀ b ∈ fp, ∀ o, s7.heap.get? b = some o → s'.heap.get? b = some o ∧ H' b = none := fun b hb o e =>
          have z := I'.pin (b, o) (List.mem_append_right _ (List.mem_append_right _ (mem_pinsAt hb e)))
          ⟨z.1, z.2.1⟩
        refine ⟨m', hm, i + 1, H', (I'.unpinned (pins := [])).weak (by rw [← hw8, wipe_length]) (fun j v e => (wipe_some (hw8 ▸ e)).1), T.keep _ _ _ st7 fun b hb o e => (at7 b hb o e).1, fun b hb => ?_, w'⟩
        obtain ⟨o, e, _⟩ := T.obj _ _ st7 b hb
        exact (at7 b hb o e).2
      cases b with
      | false => exact next I9 q9
      | true =>
        refine thnF (pk.run _ s9 σ8 H9 _ I9 q9) fun z s10 ⟨yk, H10, I10, r10, q10⟩ => ?_
        refine thnF (pe.run _ s10 σ8 H10 _ I10 q10) fun z2 s11 ⟨yv, H11, I11, r11, kvs, p, k, b, ek, ev, eb, hD11, hz11, fr, nx⟩ => ?_
        subst ek ev
        exact dset_N (X := X.blk s3 H3 scope ce fp) hu I11 eb hD11 hz11 r10 r11 fr fun xs s12 n12 I12 => next I12 (nx xs n12)
  exact codeAny_compStart_dict loop (T.self X.A 0 _ _ _ st4 loop)

theorem ps_setDcN {i : Nat} {y : Str} {py : Pos} {spos : Pos} {kx vx tg iter : Expr} {ifs : List Expr} {scope : Scope} {own : List (Str × Nat)} {pos : Pos} {wi : TI} {g : TG} {tt : TT} {tk tv : TE} (hy : X.N[i]? = some y) (hyl : X.env.scope.names.lookup y = some .local) (hsw : swapsWith (.DictComp kx vx [⟨tg, iter, ifs, 0⟩] scope pos) (some (.Name y py)) spos.line X.env = pure true) (hu : X.A.units + 10 < cLine) (hc : X.calm = true) (hN : X.N.Nodup) (hi : PI X tg iter wi) (ok : BlkOk X.N X.env.scope scope own)
    (hg : ∀ (s : Shared) (H : Hp) (C : Addr) (cl : List (Str × Addr)) (fp : List Addr), PG (X.blk s H scope (compEnvC scope cl C X.env) fp) tg g) (ht : ∀ (s : Shared) (H : Hp) (C : Addr) (cl : List (Str × Addr)) (fp : List Addr), PTs (X.blk s H scope (compEnvC scope cl C X.env) fp) ifs tt)
    (hk : ∀ (s : Shared) (H : Hp) (C : Addr) (cl : List (Str × Addr)) (fp : List Addr), PE (X.blk s H scope (compEnvC scope cl C X.env) fp) kx tk) (he : ∀ (s : Shared) (H : Hp) (C : Addr) (cl : List (Str × Addr)) (fp : List Addr), PE (X.blk s H scope (compEnvC scope cl C X.env) fp) vx tv) (hs : ∀ x, foldedSetIterable iter X.env x = pure x := by intro _; rfl) :
    PS X (.Assign [.Name y py] (.DictComp kx vx [⟨tg, iter, ifs, 0⟩] scope pos) spos) (tAsg (tDcN X.prog X.w wi g tt tk tv (own.map (·.2))) (gName i)) := by
  refine ⟨fun pins s σ H D I h => ?_⟩
  rw [exec_Assign_Name_used _ _ _ _ hsw]
  refine wpAny_bind (wpAny_standAt (wpAny_bind ?_))
  show wpAny _ X.A (do let _ ← comprehension (.DictComp kx vx [⟨tg, iter, ifs, 0⟩] scope pos) scope X.env (firstIterPos [⟨tg, iter, ifs, 0⟩] pos) newDict false (eval iter X.env) (some (assign (.Name y py) X.env))) _ _ s
  have h : tDcN X.prog X.w wi g tt tk tv (own.map (·.2)) σ H (fun x H1 => gName i x σ H1 D.nx) := h
  refine wpAny_bind (thn (dc_coreN (Qf := fun _ s' => SP X pins D .next s') I hu hc hN hi ok hg ht hk he hs h fun L C s' m H' I' q hn f => ?_) fun _ s' hq => wpAny_pure (wpAny_pure hq))
  show wpAny _ _ (assign (.Name y py) X.env (.ref L)) _ _ _
  refine wpAny_assign_Name (store_ok2 (v := V.ref L) I' hN hy (.inl hyl) rfl (fun s2 I2 ⟨a, sb, ha⟩ => ?_) (.inr hyl))
  obtain ⟨f0, f1, f2, f3, f4, f5⟩ := f
  have haC : C ≠ a := by
    rcases ha with z | z
    · rw [z]; exact f1
    · exact fun e => f4 y a z e.symm
  refine ⟨m, hn.sameBut sb haC, fun h3 sb3 => ?_⟩
  exact ⟨_, H', I2.turned (t' := s2.toks) (fun b o hb e => (sb3.2 b hb).trans e) f0 f1 f3 f4 f5, q⟩
end
end Mz

set_option Elab.async false
set_option linter.all false
set_option maxRecDepth 100000
set_option maxHeartbeats 4000000
/-! for k, v in d.items(): d a dict from (int, (ints)) to ints -/
namespace Mz
open PySem PySem.Spec PyProof.Rows L2
theorem frzN {X : Cx} {pins : List (Addr × Obj)} {σ : L2.St} {H : Hp} {s : Shared} {d : Addr} {o : Obj} {xs : List Ent} (I : Inv X pins σ H s) (e : H d = some (.frz o (NestO X.prog X.w d xs))) :
    (d == sysModules) = false ∧ s.heap.get? d = some o ∧ o.ExactDict ∧ ∃ (es : Array DictEntry) (ep : Nat), o.data = .dict es ep ∧ es.toList = (xs.map rawE).map (entryOfKey (nestedKind X.prog X.w)) := by
  obtain ⟨hd, ⟨a, b, o', es, ep, h1, h2, h3, h4, h5⟩, _⟩ := (show ObjOk X.prog X.w H s.heap d (.frz o (NestO X.prog X.w d xs)) from I.hok d _ e)
  rw [hd] at h1
  cases h1
  exact ⟨a, hd, h2, es, ep, h3, h4⟩
/-- the pairs, each a new tuple of the key's own tuple and the value -/
def ItiN (P : Program) (w : World) (d : Addr) (o : Obj) (xs : List Ent) : It :=
  ⟨fun i H => H d = some (.frz o (NestO P w d xs)) ∧ i < xs.length, fun i H x H' => ∃ (T : Addr) (e : Ent) (v : Int) , xs[i]? = some e ∧ (∃ t, e.2.2 = Value.int v t) ∧ x = .ref T ∧ H T = none ∧ H' = upd H T (.tup [.ref e.2.1, .int v]), fun i H => H d = some (.frz o (NestO P w d xs)) ∧ xs.length ≤ i⟩
section
variable {P : Program} {w : World} {K : PySem.W.Frag} {tg : Expr} {d : Addr} {o : Obj} {es : Array DictEntry} {ep : Nat}
theorem ent_at {xs : List Ent} {i : Nat} {e : Ent} (hes : es.toList = (xs.map rawE).map (entryOfKey (nestedKind P w))) (h : xs[i]? = some e) : ∃ en, es[i]? = some en ∧ en.key = .ref e.2.1 ∧ en.val = e.2.2 := by
  have q : es.toList[i]? = some (entryOfKey (nestedKind P w) (rawE e)) := by
    rw [hes, List.getElem?_map, List.getElem?_map, h]
    rfl
  rw [Array.getElem?_toList] at q
  exact ⟨_, q, rfl, rfl⟩
theorem turn_itemsN {xs : List Ent} {elts : List Expr} {kk : Nat} {tpos : Pos} (it : Addr) (hod : o.data = .dict es ep) (vals : ∀ e ∈ xs, ∃ v t, e.2.2 = Value.int v t) :
    Turn P w K (.Tuple elts kk tpos) (ItiN P w d o xs) [it] it (fun i h => ∃ ok ov, IsItemIter h it d i xs.length ep ok ov) where
  mem := by simp
  obj := fun i h st b hb => by
    have e : b = it := by simpa using hb
    subst e
    obtain ⟨ok, ov, e⟩ := st
    exact ⟨_, e, fun v z => nomatch z⟩
  keep := fun i h h' st k => let ⟨ok, ov, e⟩ := st; ⟨ok, ov, k it (by simp) _ e⟩
  item := by
    intro X hP hw hK hc i pins s σ H E I hf st hg
    subst hP hw hK
    obtain ⟨hd, hi⟩ := hg
    obtain ⟨hs, hgd, hx, es', ep', hdt, hes⟩ := frzN I hd
    obtain ⟨rfl, rfl⟩ := dict_ep hod hdt
    have hsz : es'.size = xs.length := by
      have := congrArg List.length hes
      rw [List.length_map, List.length_map, Array.length_toList] at this
      exact this
    obtain ⟨e, he0⟩ : ∃ e, xs[i]? = some e := ⟨xs[i], List.getElem?_eq_getElem hi⟩
    obtain ⟨v, t, ev⟩ := vals e (List.mem_of_getElem? he0)
    obtain ⟨en, hen, hkey, hval⟩ := ent_at hes he0
    obtain ⟨ok, ov, he⟩ := st
    have hlt : it < s.heap.objs.size := Heap.lt_size he
    have hi2 : i < es'.size := by omega
    have een : es'[i] = en := by
      rw [Array.getElem?_eq_getElem hi2] at hen
      exact Option.some.inj hen
    rw [← hsz] at he
    refine wpAny_pyNext_items_item_raw he ⟨o, hgd, hx, hdt⟩ hi2 fun h' ho hT hz hk => ?_
    rw [een] at ho hT
    refine ⟨_, rfl, wpAny_letOwnedTupleGo_items (s := { s with heap := h' }) ho fun h'' he' sb => ?_⟩
    have hT2 : h''.get? s.heap.objs.size = some { cls := .type "tuple", data := .seq #[en.key, en.val] } := (sb.2 _ (Nat.ne_of_gt hlt)).trans hT
    have new : ObjOk X.prog X.w (upd H s.heap.objs.size (.tup [.ref e.2.1, .int v])) h'' s.heap.objs.size (.tup [.ref e.2.1, .int v]) :=
      ⟨by show 2 ≤ sizeLine; decide, [en.key, en.val], .cons hkey (.cons (show ∃ t, en.val = Value.int v t from ⟨t, hval.trans ev⟩) .nil), ⟨_, hT2, rfl, _, rfl⟩⟩
    have I1 : Inv X pins σ (upd H s.heap.objs.size (.tup [.ref e.2.1, .int v])) { s with heap := h'' } :=
      I.turnedNew (t' := s.toks) (ch := [it]) (fun b ob hb e => (sb.2 b (by simpa using hb)).trans (hk b ob (by simpa using hb) e)) hf (Nat.le_refl _) new
    refine ⟨.ref s.heap.objs.size, _, I1, rfl, ⟨_, e, v, he0, ⟨t, ev⟩, rfl, I.hok.fresh (Nat.le_refl _), rfl⟩, ⟨en.key, en.val, ?_⟩, fun b hb => ?_⟩
    · rw [← hsz]; exact he'
    · have e : b = it := by simpa using hb
      rw [e, upd_ne (Nat.ne_of_lt hlt)]
      exact (hf it (by simp)).1
  done := by
    intro X hP hw hK hc i pins s σ H E I hf st hg
    subst hP hw hK
    obtain ⟨hd, hi⟩ := hg
    obtain ⟨f0, f1, f2, f3, f4, f5⟩ := hf it (by simp)
    obtain ⟨hs, hgd, hx, es', ep', hdt, hes⟩ := frzN I hd
    obtain ⟨rfl, rfl⟩ := dict_ep hod hdt
    have hsz : es'.size = xs.length := by
      have := congrArg List.length hes
      rw [List.length_map, List.length_map, Array.length_toList] at this
      exact this
    obtain ⟨ok, ov, he⟩ := st
    rw [← hsz] at he
    exact wpAny_pyNext_items_end_raw (I.ok.hd hc) he ⟨o, hgd, hx, hdt⟩ (by omega) fun h' eb => ⟨rfl, I.turned (t' := s.toks) (fun b ob hb e => eb b ob hb e) f0 f1 f3 f4 f5⟩
  self := fun A i s Q E st h => let ⟨_, _, e⟩ := st; PySem.W.kcp_self e h
end
/-- the dict is locked (tLock, or by the caller) -/
def iItemsN (P : Program) (w : World) (td : TE) : TI := fun σ H R => td σ H fun x H1 => ∃ d o xs, x = .ref d ∧ H1 d = some (.frz o (NestO P w d xs)) ∧ (∀ e ∈ xs, ∃ v t, e.2.2 = Value.int v t) ∧ R (ItiN P w d o xs) H1
section
variable {X : Cx} {tg e : Expr} {td : TE} {apos cpos : Pos}
theorem pi_itemsN {elts : List Expr} {kk : Nat} {tpos : Pos} (he : PE X e td) (hbase : attributeBase e "items" X.env (eval e X.env) = eval e X.env := by rfl) (hline : (apos.endLine == cpos.line) = true := by rfl) :
    PI X (.Tuple elts kk tpos) (.Call (.Attribute e "items" apos) [] [] cpos) (iItemsN X.prog X.w td) := by
  refine ⟨fun pins s σ H R I h => ?_⟩
  refine wpAny_Call_method (T := "dict") (id := "dict.items") hbase rfl hline F.plainAttrs_dict F.slot_dict_items F.type_dict_items (thn (he.run pins s σ H _ I h) fun u s1 ⟨x, H1, I1, rx, d, o, xs, ex, hd, vals, q⟩ => ?_)
  subst ex
  obtain rfl : u = Value.ref d := rx
  obtain ⟨hs, hgd, hx, es, ep, hdt, hes⟩ := frzN I1 hd
  have hsz : es.size = xs.length := by
    have := congrArg List.length hes
    rw [List.length_map, List.length_map, Array.length_toList] at this
    exact this
  have hraw : s1.heap.DictRaw d es ep := ⟨o, hgd, hx, hdt⟩
  refine ⟨hraw.typeIs, fun a e => by cases e; exact ⟨o, hgd, hx.2.1⟩, ?_⟩
  have I2 : Inv X pins σ H1 { s1 with heap := s1.heap.push { cls := .type "dict_items", data := .fields #[.ref d] } } := I1.kept (t' := s1.toks) fun b ob q => Heap.get?_push_of_some _ q
  have fin : wpAny (model X.prog X.w) X.A (pyIter (.ref s1.heap.objs.size)) (PIE X pins σ (.Tuple elts kk tpos) R) X.xe { s1 with heap := s1.heap.push { cls := .type "dict_items", data := .fields #[.ref d] } } := by
    refine wpAny_pyIter_items_raw (d := d) ⟨_, Heap.get?_push_size _ rfl, rfl, rfl⟩ (hraw.at fun o q => Heap.get?_push_of_some _ q) (pi_one (tk := s1.toks) I2 _ (turn_itemsN _ hdt vals) ⟨.none, .none, ?_⟩ q)
    rw [← hsz]
    exact Heap.get?_push_size _ rfl
  show wpAny _ _ (callWith cpos (.builtin "dict.items") [.ref d] [] []) _ X.xe s1
  exact method_meetsIn F.slot_dict_items F.entry_dict_items rfl (PySem.evalArgs_none ⟨rfl, hraw.typeIs, F.args_dict_items_1 _, _, meets_dict_items_raw d hs, ⟨es, ep, hraw⟩, fin⟩)
end
theorem walk_itemsN {P : Program} {w : World} {d : Addr} {o : Obj} {xs : List Ent} : Walk (ItiN P w d o xs) xs.length (fun H => H d = some (.frz o (NestO P w d xs)))
    (fun i H x H' => ∃ (T : Addr) (e : Ent) (v : Int), xs[i]? = some e ∧ (∃ t, e.2.2 = Value.int v t) ∧ x = .ref T ∧ H T = none ∧ H' = upd H T (.tup [.ref e.2.1, .int v])) :=
  ⟨fun _ _ hi q => ⟨q, hi⟩, fun _ q => ⟨q, Nat.le_refl _⟩, fun _ _ _ _ _ _ y => y⟩
end Mz

set_option Elab.async false
set_option linter.all false
set_option maxRecDepth 100000
set_option maxHeartbeats 4000000
namespace K42
open PySem PySem.Spec PyProof.Rows L2 Mz
def top (i : Nat) : Stmt := PySem.Challenge.pw_maieutic_k42_beginnings_that_clash.main.body.getD i (.Pass ⟨0, 0, 0, 0⟩)
abbrev s_are_below : Stmt := top 7
abbrev s_is_word : Stmt := top 8
abbrev s_word_order : Stmt := top 9
abbrev s_check_log : Stmt := top 15
abbrev s_smallest : Stmt := top 16
abbrev s_smallest_parts : Stmt := top 17
abbrev s_longer_parts : Stmt := top 18
abbrev s_move_on : Stmt := top 19
abbrev s_state_rows : Stmt := top 20
abbrev s_beginnings : Stmt := top 22
abbrev s_do_clash : Stmt := top 23
abbrev s_clash_list : Stmt := top 24
abbrev s_endings : Stmt := top 25
abbrev s_contradict : Stmt := top 26
abbrev s_law_cell : Stmt := top 28
abbrev s_law_numbers : Stmt := top 29
abbrev s_law_machine : Stmt := top 30
abbrev s_law_state : Stmt := top 31
abbrev s_law_output : Stmt := top 32
abbrev s_law_log : Stmt := top 35
abbrev s_law_beginnings : Stmt := top 36
abbrev s_law_tails : Stmt := top 37
abbrev s_law_clash : Stmt := top 38
abbrev s_law_states : Stmt := top 39
abbrev s_law_list_good : Stmt := top 40
abbrev s_law : Stmt := top 41
theorem sc_are_below : FnScope ["numbers", "limit", "number"] ["numbers", "limit"] (defScope s_are_below) := ⟨rfl, rfl, rfl, by decide +kernel, rfl, by decide +kernel, by decide +kernel⟩
theorem sc_is_word : FnScope ["word", "letters", "longest"] ["word", "letters", "longest"] (defScope s_is_word) := ⟨rfl, rfl, rfl, by decide +kernel, rfl, by decide +kernel, by decide +kernel⟩
theorem sc_word_order : FnScope ["word"] ["word"] (defScope s_word_order) := ⟨rfl, rfl, rfl, by decide +kernel, rfl, by decide +kernel, by decide +kernel⟩
theorem sc_check_log : FnScope ["letters", "outs", "log", "word", "output", "told"] ["letters", "outs", "log"] (defScope s_check_log) := ⟨rfl, rfl, rfl, by decide +kernel, rfl, by decide +kernel, by decide +kernel⟩
theorem sc_smallest : FnScope ["letters", "outs", "log", "rows", "part", "row"] ["letters", "outs", "log"] (defScope s_smallest) := ⟨rfl, rfl, rfl, by decide +kernel, rfl, by decide +kernel, by decide +kernel⟩
theorem sc_smallest_parts : FnScope ["letters", "log", "claims", "states", "parts", "_", "word", "output", "part", "longer"] ["letters", "log"] (defScope s_smallest_parts) := ⟨rfl, rfl, rfl, by decide +kernel, rfl, by decide +kernel, by decide +kernel⟩
theorem sc_longer_parts : FnScope ["letters", "states", "part", "moves", "claims", "met", "longer", "after", "further", "left"] ["letters", "states", "part"] (defScope s_longer_parts) := ⟨rfl, rfl, rfl, by decide +kernel, rfl, by decide +kernel, by decide +kernel⟩
theorem sc_move_on : FnScope ["letters", "moves", "claims", "further", "state", "rest", "output", "place", "at"] ["letters", "moves", "claims"] (defScope s_move_on) := ⟨rfl, rfl, rfl, by decide +kernel, rfl, by decide +kernel, by decide +kernel⟩
theorem sc_state_rows : FnScope ["letters", "part", "moves", "claims", "rows", "state"] ["letters", "part"] (defScope s_state_rows) := ⟨rfl, rfl, rfl, by decide +kernel, rfl, by decide +kernel, by decide +kernel⟩
theorem sc_beginnings : FnScope ["log", "word"] ["log"] (defScope s_beginnings) := ⟨rfl, rfl, rfl, by decide +kernel, rfl, by decide +kernel, by decide +kernel⟩
theorem sc_do_clash : FnScope ["log", "first", "second", "endings"] ["log", "first", "second"] (defScope s_do_clash) := ⟨rfl, rfl, rfl, by decide +kernel, rfl, by decide +kernel, by decide +kernel⟩
theorem sc_clash_list : FnScope ["letters", "outs", "log", "endings", "order", "chosen", "word", "clashing", "other"] ["letters", "outs", "log"] (defScope s_clash_list) := ⟨rfl, rfl, rfl, by decide +kernel, rfl, by decide +kernel, by decide +kernel⟩
theorem sc_endings : FnScope ["log", "endings", "word", "output", "whole", "place"] ["log"] (defScope s_endings) := ⟨rfl, rfl, rfl, by decide +kernel, rfl, by decide +kernel, by decide +kernel⟩
theorem sc_contradict : FnScope ["endings", "others", "word", "output"] ["endings", "others"] (defScope s_contradict) := ⟨rfl, rfl, rfl, by decide +kernel, rfl, by decide +kernel, by decide +kernel⟩
theorem sc_law_cell : FnScope ["script", "k"] ["script", "k"] (defScope s_law_cell) := ⟨rfl, rfl, rfl, by decide +kernel, rfl, by decide +kernel, by decide +kernel⟩
theorem sc_law_numbers : FnScope ["cell", "k", "many", "numbers", "rest", "j", "mixed", "twice"] ["cell", "k", "many"] (defScope s_law_numbers) := ⟨rfl, rfl, rfl, by decide +kernel, rfl, by decide +kernel, by decide +kernel⟩
theorem sc_law_machine : FnScope ["numbers", "letters", "outs", "states", "moves", "outputs", "s", "row", "a"] ["numbers", "letters", "outs", "states"] (defScope s_law_machine) := ⟨rfl, rfl, rfl, by decide +kernel, rfl, by decide +kernel, by decide +kernel⟩
theorem sc_law_state : FnScope ["machine", "word", "state", "letter"] ["machine", "word"] (defScope s_law_state) := ⟨rfl, rfl, rfl, by decide +kernel, rfl, by decide +kernel, by decide +kernel⟩
theorem sc_law_output : FnScope ["machine", "word"] ["machine", "word"] (defScope s_law_output) := ⟨rfl, rfl, rfl, by decide +kernel, rfl, by decide +kernel, by decide +kernel⟩
theorem sc_law_log : FnScope ["script", "letters", "outs", "hidden", "log", "k", "numbers", "word", "output", "row", "j"] ["script", "letters", "outs", "hidden"] (defScope s_law_log) := ⟨rfl, rfl, rfl, by decide +kernel, rfl, by decide +kernel, by decide +kernel⟩
theorem sc_law_beginnings : FnScope ["log", "found", "word", "output", "k", "row"] ["log"] (defScope s_law_beginnings) := ⟨rfl, rfl, rfl, by decide +kernel, rfl, by decide +kernel, by decide +kernel⟩
theorem sc_law_tails : FnScope ["log", "start", "tails", "word", "output"] ["log", "start"] (defScope s_law_tails) := ⟨rfl, rfl, rfl, by decide +kernel, rfl, by decide +kernel, by decide +kernel⟩
theorem sc_law_clash : FnScope ["first", "second", "tail"] ["first", "second"] (defScope s_law_clash) := ⟨rfl, rfl, rfl, by decide +kernel, rfl, by decide +kernel, by decide +kernel⟩
theorem sc_law_states : FnScope ["letters", "outs", "log"] ["letters", "outs", "log"] (defScope s_law_states) := ⟨rfl, rfl, rfl, by decide +kernel, rfl, by decide +kernel, by decide +kernel⟩
theorem sc_law_list_good : FnScope ["words", "starts", "tails", "chosen", "k", "j", "word", "one"] ["words", "starts", "tails"] (defScope s_law_list_good) := ⟨rfl, rfl, rfl, by decide +kernel, rfl, by decide +kernel, by decide +kernel⟩
theorem sc_law : FnScope ["script", "numbers", "letters", "outs", "hidden", "log", "handed", "starts", "told", "tails", "k", "j", "words", "row", "start", "word"] ["script"] (defScope s_law) := ⟨rfl, rfl, rfl, by decide +kernel, rfl, by decide +kernel, by decide +kernel⟩
/-- where the top has put what it makes -/
structure Ads where
  a_MaieuticError : Addr
  a_NotAllowed : Addr
  a_Missing : Addr
  a_Broken : Addr
  a_are_below : Addr
  d_are_below : FuncData
  a_is_word : Addr
  d_is_word : FuncData
  a_word_order : Addr
  d_word_order : FuncData
  a_check_log : Addr
  d_check_log : FuncData
  a_smallest : Addr
  d_smallest : FuncData
  a_smallest_parts : Addr
  d_smallest_parts : FuncData
  a_longer_parts : Addr
  d_longer_parts : FuncData
  a_move_on : Addr
  d_move_on : FuncData
  a_state_rows : Addr
  d_state_rows : FuncData
  a_beginnings : Addr
  d_beginnings : FuncData
  a_do_clash : Addr
  d_do_clash : FuncData
  a_clash_list : Addr
  d_clash_list : FuncData
  a_endings : Addr
  d_endings : FuncData
  a_contradict : Addr
  d_contradict : FuncData
  a_law_cell : Addr
  d_law_cell : FuncData
  a_law_numbers : Addr
  d_law_numbers : FuncData
  a_law_machine : Addr
  d_law_machine : FuncData
  a_law_state : Addr
  d_law_state : FuncData
  a_law_output : Addr
  d_law_output : FuncData
  a_law_log : Addr
  d_law_log : FuncData
  a_law_beginnings : Addr
  d_law_beginnings : FuncData
  a_law_tails : Addr
  d_law_tails : FuncData
  a_law_clash : Addr
  d_law_clash : FuncData
  a_law_states : Addr
  d_law_states : FuncData
  a_law_list_good : Addr
  d_law_list_good : FuncData
  a_law : Addr
  d_law : FuncData
/-- what the proofs ask of the written part -/
structure Txt (K : PySem.W.Frag) (mg : Str → Option Value) (A : Ads) : Prop where
  g_MaieuticError : mg "MaieuticError" = some (.ref A.a_MaieuticError)
  x_MaieuticError : PySem.W.excIn K A.a_MaieuticError [.type "ValueError", .type "Exception", .type "BaseException", .type "object"] "ValueError.__new__" = true
  k_MaieuticError : PySem.W.keepIn K (.ref A.a_MaieuticError) = true
  sb_MaieuticError : PySem.W.subIn K (.ref A.a_MaieuticError) (.type "BaseException") = some true
  ty_MaieuticError : PySem.W.typeIn K (.ref A.a_MaieuticError) = some (.type "type")
  E_MaieuticError : ExcC K A.a_MaieuticError
  g_NotAllowed : mg "NotAllowed" = some (.ref A.a_NotAllowed)
  x_NotAllowed : PySem.W.excIn K A.a_NotAllowed [.type "ValueError", .type "Exception", .type "BaseException", .type "object"] "ValueError.__new__" = true
  k_NotAllowed : PySem.W.keepIn K (.ref A.a_NotAllowed) = true
  sb_NotAllowed : PySem.W.subIn K (.ref A.a_NotAllowed) (.type "BaseException") = some true
  ty_NotAllowed : PySem.W.typeIn K (.ref A.a_NotAllowed) = some (.type "type")
  E_NotAllowed : ExcC K A.a_NotAllowed
  g_Missing : mg "Missing" = some (.ref A.a_Missing)
  x_Missing : PySem.W.excIn K A.a_Missing [.type "ValueError", .type "Exception", .type "BaseException", .type "object"] "ValueError.__new__" = true
  k_Missing : PySem.W.keepIn K (.ref A.a_Missing) = true
  sb_Missing : PySem.W.subIn K (.ref A.a_Missing) (.type "BaseException") = some true
  ty_Missing : PySem.W.typeIn K (.ref A.a_Missing) = some (.type "type")
  E_Missing : ExcC K A.a_Missing
  g_Broken : mg "Broken" = some (.ref A.a_Broken)
  x_Broken : PySem.W.excIn K A.a_Broken [.type "ValueError", .type "Exception", .type "BaseException", .type "object"] "ValueError.__new__" = true
  k_Broken : PySem.W.keepIn K (.ref A.a_Broken) = true
  sb_Broken : PySem.W.subIn K (.ref A.a_Broken) (.type "BaseException") = some true
  ty_Broken : PySem.W.typeIn K (.ref A.a_Broken) = some (.type "type")
  E_Broken : ExcC K A.a_Broken
  su_MaieuticError_MaieuticError : PySem.W.subIn K (.ref A.a_MaieuticError) (.ref A.a_MaieuticError) = some true
  su_MaieuticError_NotAllowed : PySem.W.subIn K (.ref A.a_MaieuticError) (.ref A.a_NotAllowed) = some false
  su_MaieuticError_Missing : PySem.W.subIn K (.ref A.a_MaieuticError) (.ref A.a_Missing) = some false
  su_MaieuticError_Broken : PySem.W.subIn K (.ref A.a_MaieuticError) (.ref A.a_Broken) = some false
  su_NotAllowed_MaieuticError : PySem.W.subIn K (.ref A.a_NotAllowed) (.ref A.a_MaieuticError) = some true
  su_NotAllowed_NotAllowed : PySem.W.subIn K (.ref A.a_NotAllowed) (.ref A.a_NotAllowed) = some true
  su_NotAllowed_Missing : PySem.W.subIn K (.ref A.a_NotAllowed) (.ref A.a_Missing) = some false
  su_NotAllowed_Broken : PySem.W.subIn K (.ref A.a_NotAllowed) (.ref A.a_Broken) = some false
  su_Missing_MaieuticError : PySem.W.subIn K (.ref A.a_Missing) (.ref A.a_MaieuticError) = some true
  su_Missing_NotAllowed : PySem.W.subIn K (.ref A.a_Missing) (.ref A.a_NotAllowed) = some false
  su_Missing_Missing : PySem.W.subIn K (.ref A.a_Missing) (.ref A.a_Missing) = some true
  su_Missing_Broken : PySem.W.subIn K (.ref A.a_Missing) (.ref A.a_Broken) = some false
  su_Broken_MaieuticError : PySem.W.subIn K (.ref A.a_Broken) (.ref A.a_MaieuticError) = some true
  su_Broken_NotAllowed : PySem.W.subIn K (.ref A.a_Broken) (.ref A.a_NotAllowed) = some false
  su_Broken_Missing : PySem.W.subIn K (.ref A.a_Broken) (.ref A.a_Missing) = some false
  su_Broken_Broken : PySem.W.subIn K (.ref A.a_Broken) (.ref A.a_Broken) = some true
  F_are_below : Fun K "are_below" "are_below" s_are_below A.a_are_below A.d_are_below
  b_are_below : Binds K A.d_are_below ["numbers", "limit"] []
  g_are_below : mg "are_below" = some (.ref A.a_are_below)
  F_is_word : Fun K "is_word" "is_word" s_is_word A.a_is_word A.d_is_word
  b_is_word : Binds K A.d_is_word ["word", "letters", "longest"] []
  g_is_word : mg "is_word" = some (.ref A.a_is_word)
  F_word_order : Fun K "word_order" "word_order" s_word_order A.a_word_order A.d_word_order
  b_word_order : Binds K A.d_word_order ["word"] []
  g_word_order : mg "word_order" = some (.ref A.a_word_order)
  F_check_log : Fun K "check_log" "check_log" s_check_log A.a_check_log A.d_check_log
  b_check_log : Binds K A.d_check_log ["letters", "outs", "log"] []
  g_check_log : mg "check_log" = some (.ref A.a_check_log)
  F_smallest : Fun K "smallest" "smallest" s_smallest A.a_smallest A.d_smallest
  b_smallest : Binds K A.d_smallest ["letters", "outs", "log"] []
  g_smallest : mg "smallest" = some (.ref A.a_smallest)
  F_smallest_parts : Fun K "_smallest_parts" "_smallest_parts" s_smallest_parts A.a_smallest_parts A.d_smallest_parts
  b_smallest_parts : Binds K A.d_smallest_parts ["letters", "log"] []
  g_smallest_parts : mg "_smallest_parts" = some (.ref A.a_smallest_parts)
  F_longer_parts : Fun K "_longer_parts" "_longer_parts" s_longer_parts A.a_longer_parts A.d_longer_parts
  b_longer_parts : Binds K A.d_longer_parts ["letters", "states", "part"] []
  g_longer_parts : mg "_longer_parts" = some (.ref A.a_longer_parts)
  F_move_on : Fun K "_move_on" "_move_on" s_move_on A.a_move_on A.d_move_on
  b_move_on : Binds K A.d_move_on ["letters", "moves", "claims"] []
  g_move_on : mg "_move_on" = some (.ref A.a_move_on)
  F_state_rows : Fun K "_state_rows" "_state_rows" s_state_rows A.a_state_rows A.d_state_rows
  b_state_rows : Binds K A.d_state_rows ["letters", "part"] []
  g_state_rows : mg "_state_rows" = some (.ref A.a_state_rows)
  F_beginnings : Fun K "beginnings" "beginnings" s_beginnings A.a_beginnings A.d_beginnings
  b_beginnings : Binds K A.d_beginnings ["log"] []
  g_beginnings : mg "beginnings" = some (.ref A.a_beginnings)
  F_do_clash : Fun K "do_clash" "do_clash" s_do_clash A.a_do_clash A.d_do_clash
  b_do_clash : Binds K A.d_do_clash ["log", "first", "second"] []
  g_do_clash : mg "do_clash" = some (.ref A.a_do_clash)
  F_clash_list : Fun K "clash_list" "clash_list" s_clash_list A.a_clash_list A.d_clash_list
  b_clash_list : Binds K A.d_clash_list ["letters", "outs", "log"] []
  g_clash_list : mg "clash_list" = some (.ref A.a_clash_list)
  F_endings : Fun K "_endings" "_endings" s_endings A.a_endings A.d_endings
  b_endings : Binds K A.d_endings ["log"] []
  g_endings : mg "_endings" = some (.ref A.a_endings)
  F_contradict : Fun K "_contradict" "_contradict" s_contradict A.a_contradict A.d_contradict
  b_contradict : Binds K A.d_contradict ["endings", "others"] []
  g_contradict : mg "_contradict" = some (.ref A.a_contradict)
  F_law_cell : Fun K "_law_cell" "_law_cell" s_law_cell A.a_law_cell A.d_law_cell
  b_law_cell : Binds K A.d_law_cell ["script", "k"] []
  g_law_cell : mg "_law_cell" = some (.ref A.a_law_cell)
  F_law_numbers : Fun K "_law_numbers" "_law_numbers" s_law_numbers A.a_law_numbers A.d_law_numbers
  b_law_numbers : Binds K A.d_law_numbers ["cell", "k", "many"] []
  g_law_numbers : mg "_law_numbers" = some (.ref A.a_law_numbers)
  F_law_machine : Fun K "_law_machine" "_law_machine" s_law_machine A.a_law_machine A.d_law_machine
  b_law_machine : Binds K A.d_law_machine ["numbers", "letters", "outs", "states"] []
  g_law_machine : mg "_law_machine" = some (.ref A.a_law_machine)
  F_law_state : Fun K "_law_state" "_law_state" s_law_state A.a_law_state A.d_law_state
  b_law_state : Binds K A.d_law_state ["machine", "word"] []
  g_law_state : mg "_law_state" = some (.ref A.a_law_state)
  F_law_output : Fun K "_law_output" "_law_output" s_law_output A.a_law_output A.d_law_output
  b_law_output : Binds K A.d_law_output ["machine", "word"] []
  g_law_output : mg "_law_output" = some (.ref A.a_law_output)
  F_law_log : Fun K "_law_log" "_law_log" s_law_log A.a_law_log A.d_law_log
  b_law_log : Binds K A.d_law_log ["script", "letters", "outs", "hidden"] []
  g_law_log : mg "_law_log" = some (.ref A.a_law_log)
  F_law_beginnings : Fun K "_law_beginnings" "_law_beginnings" s_law_beginnings A.a_law_beginnings A.d_law_beginnings
  b_law_beginnings : Binds K A.d_law_beginnings ["log"] []
  g_law_beginnings : mg "_law_beginnings" = some (.ref A.a_law_beginnings)
  F_law_tails : Fun K "_law_tails" "_law_tails" s_law_tails A.a_law_tails A.d_law_tails
  b_law_tails : Binds K A.d_law_tails ["log", "start"] []
  g_law_tails : mg "_law_tails" = some (.ref A.a_law_tails)
  F_law_clash : Fun K "_law_clash" "_law_clash" s_law_clash A.a_law_clash A.d_law_clash
  b_law_clash : Binds K A.d_law_clash ["first", "second"] []
  g_law_clash : mg "_law_clash" = some (.ref A.a_law_clash)
  F_law_states : Fun K "_law_states" "_law_states" s_law_states A.a_law_states A.d_law_states
  b_law_states : Binds K A.d_law_states ["letters", "outs", "log"] []
  g_law_states : mg "_law_states" = some (.ref A.a_law_states)
  F_law_list_good : Fun K "_law_list_good" "_law_list_good" s_law_list_good A.a_law_list_good A.d_law_list_good
  b_law_list_good : Binds K A.d_law_list_good ["words", "starts", "tails"] []
  g_law_list_good : mg "_law_list_good" = some (.ref A.a_law_list_good)
  F_law : Fun K "law" "law" s_law A.a_law A.d_law
  b_law : Binds K A.d_law ["script"] []
  g_law : mg "law" = some (.ref A.a_law)
  c_MAX_OUTS : ∃ u, mg "MAX_OUTS" = some u ∧ RelV (.int 6) u
  c_MAX_LOG_LETTERS : ∃ u, mg "MAX_LOG_LETTERS" = some u ∧ RelV (.int 2) u
  c_MAX_LOG : ∃ u, mg "MAX_LOG" = some u ∧ RelV (.int 30) u
  c_MAX_SEEN : ∃ u, mg "MAX_SEEN" = some u ∧ RelV (.int 10) u
  c_MAX_SMALL : ∃ u, mg "MAX_SMALL" = some u ∧ RelV (.int 4) u
  n_all : mg "all" = none
  n_len : mg "len" = none
  n_tuple : mg "tuple" = none
  n_min : mg "min" = none
  n_range : mg "range" = none
  n_max : mg "max" = none
  n_sorted : mg "sorted" = none
  n_any : mg "any" = none
  n_int : mg "int" = none
  n_list : mg "list" = none
end K42

set_option Elab.async false
set_option linter.all false
set_option maxRecDepth 100000
set_option maxHeartbeats 4000000
namespace K42
open PySem PySem.Spec PyProof.Rows L2 Mz
/-! ### machines.py -/
def spBelow (K : PySem.W.Frag) (Pt : Addr) : Sp := fun vs H Q _ => ∃ (a : Addr) (ns : List Int) (L : Int), vs = [.ref a, .int L] ∧ Ints K H a ns ∧ GxR.TabG H Pt ∧ ∀ H', Kp Pt H H' → Q (.bl (belowB ns L)) H'
def spIsWord (K : PySem.W.Frag) (Pt : Addr) : Sp := fun vs H Q _ => ∃ (a : Addr) (ns : List Int) (k l : Int), vs = [.ref a, .int k, .int l] ∧ SqL K H a (ns.map V.int) ∧ GxR.TabG H Pt ∧
  ∀ H', Kp Pt H H' → Q (.bl (decide ((ns.length : Int) ≤ l) && belowB ns k)) H'
/-- the word fits -/
def fitB (k : Int) (ns : List Int) : Bool := decide ((ns.length : Int) ≤ 400) && belowB ns k
def spFits (K : PySem.W.Frag) (Pt : Addr) : Sp := fun vs H Q _ => ∃ (m a : Addr) (M : Mach) (ns : List Int), vs = [.ref m, .ref a] ∧ MA H m M ∧ SqL K H a (ns.map V.int) ∧ GxR.TabG H Pt ∧ ∀ H', Kp Pt H H' → Q (.bl (fitB M.ls ns)) H'
def spCheckWord (K : PySem.W.Frag) (A : Ads) (Pt : Addr) : Sp := fun vs H Q E => ∃ (m a : Addr) (M : Mach) (ns : List Int), vs = [.ref m, .ref a] ∧ MA H m M ∧ SqL K H a (ns.map V.int) ∧ GxR.TabG H Pt ∧
  ∀ H', Kp Pt H H' → (fitB M.ls ns = true → Q .non H') ∧ (fitB M.ls ns = false → E (.ref A.a_NotAllowed) none H')
def spWalk (K : PySem.W.Frag) : Sp := fun vs H Q _ => ∃ (m a : Addr) (M : Mach) (s : Int) (ns : List Int), vs = [.ref m, .int s, .ref a] ∧ MA H m M ∧ Good M ∧ M.St s ∧ SqL K H a (ns.map V.int) ∧ Lt M.ls ns ∧ Q (.int (M.run s ns)) H
def spAfter (K : PySem.W.Frag) (A : Ads) (Pt : Addr) (f : Mach → List Int → Int) : Sp := fun vs H Q E => ∃ (m a : Addr) (M : Mach) (ns : List Int), vs = [.ref m, .ref a] ∧ MA H m M ∧ Good M ∧ SqL K H a (ns.map V.int) ∧ GxR.TabG H Pt ∧
  ∀ H', Kp Pt H H' → (fitB M.ls ns = true → Q (.int (f M ns)) H') ∧ (fitB M.ls ns = false → E (.ref A.a_NotAllowed) none H')
/-- the outputs along a word -/
def alongM (M : Mach) (ns : List Int) : List Int := (List.range (ns.length + 1)).map fun j => M.out (M.run 0 (ns.take j))
/-- the outputs along a word from a state -/
def alongF (M : Mach) (s : Int) (ns : List Int) : List Int := (List.range (ns.length + 1)).map fun j => M.out (M.run s (ns.take j))
theorem fit_lt {k : Int} {ns : List Int} (h : fitB k ns = true) : Lt k ns ∧ ns.length ≤ 400 := by
  unfold fitB at h
  rw [Bool.and_eq_true] at h
  exact ⟨below_iff.mp h.2, by have := h.1; simp at this; omega⟩
section
variable {P : Program} {w : World} {K : PySem.W.Frag} {mg : Str → Option Value} {base : Heap} {A : Ads} {c Pt : Addr}
theorem ok_below (T : Txt K mg A) (TB : GxR.TabB base mg c Pt) (hc : A.d_are_below.code = .ref c) : FnOk P w K mg base CX0 1 A.a_are_below A.d_are_below ["numbers", "limit"] (spBelow K Pt) := by
  refine okC T.F_are_below sc_are_below (fun vs H Q E h => ?_) (fun Ar outer s H vs Q E hr h => ?_)
  · obtain ⟨_, _, _, rfl, _⟩ := h
    rfl
  · obtain ⟨a, ns, L, rfl, hS, hT, fin⟩ := h
    refine ⟨_, (pss_one (ps_ret (pe_allQ (G := GBelow 1) hr (by rfl) T.n_all TB hc (by exact ⟨rfl, rfl, by decide, rfl, rfl, fun y hy e => by (simp only [List.mem_cons, List.not_mem_nil, or_false] at hy; rcases hy with rfl | rfl | rfl <;> first | (cases e; done) | exact cell_has rfl)⟩) (pv 0) (by exact elt_below rfl rfl rfl rfl rfl rfl) (fun _ => rfl)))), ?_⟩
    refine ⟨_, rfl, a, ns.map V.int, (fun v => match v with | .int n => decide (0 ≤ n) && decide (n < L) | _ => false), rfl, hS, hT, fun z hz => ?_, fun H2 hH2 => ?_⟩
    · obtain ⟨n, _, rfl⟩ := List.mem_map.mp hz
      exact ⟨n, L, rfl, rfl, rfl⟩
    · have e : (ns.map V.int).all (fun v => match v with | .int n => decide (0 ≤ n) && decide (n < L) | _ => false) = belowB ns L := by
        rw [List.all_map]
        rfl
      rw [e]
      exact fin H2 (.ofTabbed hH2)
theorem ok_isword (T : Txt K mg A) (TB : GxR.TabB base mg c Pt) (hc : A.d_are_below.code = .ref c) : FnOk P w K mg base CX0 2 A.a_is_word A.d_is_word ["word", "letters", "longest"] (spIsWord K Pt) := by
  have G_are_below : FnOk P w K mg base CX0 1 A.a_are_below A.d_are_below ["numbers", "limit"] (spBelow K Pt) := ok_below T TB hc
  refine T.F_is_word.ok sc_is_word (fun vs H Q E h => ?_) (fun cdv Ar outer s H vs Q E hr h => ?_)
  · obtain ⟨_, _, _, _, rfl, _⟩ := h
    rfl
  · obtain ⟨a, ns, k, l, rfl, hS, hT, fin⟩ := h
    have hr_are_below : Room 1 _ := hr
    refine ⟨_, (pss_one (ps_ret (pe_and (pe_cmpR op_le (pe_callB call_len_seq (by rfl) T.n_len PySem.boot_len (pa_cons (pv 0) pa_nil)) (pv 2) (nomark _)) (pe_one (pe_call G_are_below hr_are_below (by rfl) T.g_are_below T.F_are_below.kp T.b_are_below .nil pass0 (pa_cons (pv 0) (pa_cons (pv 1) pa_nil))))))), ?_⟩
    refine ⟨_, rfl, a, _, rfl, .inl hS, _, rfl, _, _, rfl, rfl, _, rfl, ?_⟩
    rw [List.length_map]
    refine ite2 (fun q => ?_) (fun q => ?_)
    · refine ⟨_, rfl, _, rfl, a, ns, k, rfl, .inl hS, hT, fun H' kp => ?_⟩
      have f := fin H' kp
      rw [q, Bool.true_and] at f
      exact f
    · have f := fin H (.refl hT)
      rw [Bool.eq_false_iff.mpr q, Bool.false_and] at f
      exact f
theorem from_more {M : Mach} {s0 : Int} {ns : List Int} {i : Nat} : (List.range (i + 1 + 1)).map (fun j => M.out (M.run s0 (ns.take j))) = (List.range (i + 1)).map (fun j => M.out (M.run s0 (ns.take j))) ++ [M.out (M.run s0 (ns.take (i + 1)))] := by
  rw [List.range_succ, List.map_append]
  rfl
theorem along_more {M : Mach} {ns : List Int} {i : Nat} : (List.range (i + 1 + 1)).map (fun j => M.out (M.run 0 (ns.take j))) = (List.range (i + 1)).map (fun j => M.out (M.run 0 (ns.take j))) ++ [M.out (M.run 0 (ns.take (i + 1)))] := by
  rw [List.range_succ, List.map_append]
  rfl
end
end K42

set_option Elab.async false
set_option linter.all false
set_option maxRecDepth 100000
set_option maxHeartbeats 4000000
/-! min and max of a tuple of ints -/
namespace Mz
open PySem PySem.Spec PyProof.Rows L2
theorem alikeAll_ints (ns : List Int) : PySem.W.AlikeAll (ns.map PyData.int) := by
  refine ⟨fun x hx y hy => ?_, fun x hx => ?_⟩
  · obtain ⟨n, _, rfl⟩ := List.mem_map.mp hx
    obtain ⟨m, _, rfl⟩ := List.mem_map.mp hy
    rfl
  · obtain ⟨n, _, rfl⟩ := List.mem_map.mp hx
    exact fun z => by cases z
def rMinT (K : PySem.W.Frag) : List V → Hp → VK → Prop := fun vs H Q => ∃ (a : Addr) (n : Int) (ns : List Int), vs = [V.ref a] ∧ SqT K H a ((n :: ns).map V.int) ∧ Q (.int (ns.foldl min n)) H
def rMaxT (K : PySem.W.Frag) : List V → Hp → VK → Prop := fun vs H Q => ∃ (a : Addr) (n : Int) (ns : List Int), vs = [V.ref a] ∧ SqT K H a ((n :: ns).map V.int) ∧ Q (.int (ns.foldl max n)) H
section
variable {X : Cx}
theorem call_minT (hc : X.calm = true) (hu : X.A.units + 64 < cLine) : CallR X (.builtin "min") (rMinT X.K) := by
  intro pins s σ H vs us Q I r h
  obtain ⟨a, n, ns, rfl, hs, q⟩ := h
  obtain ⟨its, rv, hl, _⟩ := I.tuple hs
  rw [Vals.ref1 r]
  obtain ⟨as, h4⟩ := Dp.readsAll I _ _ its (dp_ints (n :: ns)) rv
  have dd := depth_ints (n :: ns)
  refine PySem.W.min_tuple_data (x := .int n) (xs := ns.map .int) (I.ok.hd hc) (show s.heap.IsTuple a its.toArray from hl) h4 (alikeAll_ints (n :: ns)) (by show X.A.units + 1 + PyData.depthAll ((n :: ns).map PyData.int) < cLine; omega) fun i v h' tk bs _ rd hk => ?_
  rw [PySem.W.minD_ints] at rd
  cases rd
  exact ⟨.int _, H, I.kept hk, ⟨_, rfl⟩, q⟩
theorem call_maxT (hc : X.calm = true) (hu : X.A.units + 64 < cLine) : CallR X (.builtin "max") (rMaxT X.K) := by
  intro pins s σ H vs us Q I r h
  obtain ⟨a, n, ns, rfl, hs, q⟩ := h
  obtain ⟨its, rv, hl, _⟩ := I.tuple hs
  rw [Vals.ref1 r]
  obtain ⟨as, h4⟩ := Dp.readsAll I _ _ its (dp_ints (n :: ns)) rv
  have dd := depth_ints (n :: ns)
  refine PySem.W.max_tuple_data (x := .int n) (xs := ns.map .int) (I.ok.hd hc) (show s.heap.IsTuple a its.toArray from hl) h4 (alikeAll_ints (n :: ns)) (by show X.A.units + 1 + PyData.depthAll ((n :: ns).map PyData.int) < cLine; omega) fun i v h' tk bs _ rd hk => ?_
  rw [PySem.W.maxD_ints] at rd
  cases rd
  exact ⟨.int _, H, I.kept hk, ⟨_, rfl⟩, q⟩
end
theorem foldl_min_le (n : Int) (ns : List Int) (k : Int) : k ≤ ns.foldl min n ↔ ∀ x ∈ n :: ns, k ≤ x := by
  induction ns generalizing n with
  | nil => simp
  | cons m ns ih =>
    rw [List.foldl_cons, ih]
    simp only [List.mem_cons, forall_eq_or_imp]
    constructor
    · intro ⟨h1, h2⟩
      exact ⟨by omega, by omega, h2⟩
    · intro ⟨h1, h2, h3⟩
      exact ⟨by omega, h3⟩
theorem foldl_max_le (n : Int) (ns : List Int) (k : Int) : ns.foldl max n ≤ k ↔ ∀ x ∈ n :: ns, x ≤ k := by
  induction ns generalizing n with
  | nil => simp
  | cons m ns ih =>
    rw [List.foldl_cons, ih]
    simp only [List.mem_cons, forall_eq_or_imp]
    constructor
    · intro ⟨h1, h2⟩
      exact ⟨by omega, by omega, h2⟩
    · intro ⟨h1, h2, h3⟩
      exact ⟨by omega, h3⟩
end Mz

set_option Elab.async false
set_option linter.all false
set_option maxRecDepth 100000
set_option maxHeartbeats 4000000
/-! max of a tuple of ints with a default; min of a list of data: the item itself -/
namespace Mz
open PySem PySem.Spec PyProof.Rows L2
def maxOr (d : Int) : List Int → Int
  | [] => d
  | n :: ns => ns.foldl max n
def rMaxD (K : PySem.W.Frag) : List V → List V → Hp → VK → Prop := fun vs zs H Q => ∃ (a : Addr) (d : Int) (ns : List Int), vs = [V.ref a] ∧ zs = [V.int d] ∧ SqT K H a (ns.map V.int) ∧ Q (.int (maxOr d ns)) H
def rMinL (K : PySem.W.Frag) : List V → Hp → VK → Prop := fun vs H Q => ∃ (a : Addr) (xs : List V) (d : PyData) (ds : List PyData), vs = [V.ref a] ∧ SqL K H a xs ∧ DpAll K H xs (d :: ds) ∧ PySem.W.AlikeAll (d :: ds) ∧ PyData.depthAll (d :: ds) ≤ 60 ∧
  ∀ (i : Nat) (v : V), xs[i]? = some v → (d :: ds)[i]? = some (PySem.W.minD d ds) → Q v H
section
variable {X : Cx}
theorem cr_maxD (hc : X.calm = true) (hu : X.A.units + 64 < cLine) : CallRK X (.builtin "max") [Str.ofString "default"] (rMaxD X.K) := by
  intro pins s σ H vs zs us ws Q I r rz h
  obtain ⟨a, d, ns, rfl, rfl, hs, q⟩ := h
  obtain ⟨its, rv, hl, _⟩ := I.tuple hs
  rw [Vals.ref1 r]
  cases rz with
  | cons rd rt =>
    cases rt
    obtain ⟨t, rfl⟩ := (show ∃ t, _ = Value.int d t from rd)
    obtain ⟨as, h4⟩ := Dp.readsAll I _ _ its (dp_ints ns) rv
    have dd := depth_ints ns
    refine PySem.W.max_tuple_default (xs := ns.map .int) (I.ok.hd hc) (show s.heap.IsTuple a its.toArray from hl) h4 (alikeAll_ints ns) (by show X.A.units + 1 + PyData.depthAll (ns.map PyData.int) < cLine; omega) (fun h0 h' tk hk => ?_) fun y ys i v h' tk bs e _ rdd hk => ?_
    · cases ns with
      | nil => exact ⟨.int _, H, I.kept hk, ⟨_, rfl⟩, q⟩
      | cons n ns => cases h0
    · cases ns with
      | nil => cases e
      | cons n ns =>
        cases e
        rw [PySem.W.maxD_ints] at rdd
        cases rdd
        exact ⟨.int _, H, I.kept hk, ⟨_, rfl⟩, q⟩
theorem call_minL (hc : X.calm = true) (hu : X.A.units + 64 < cLine) : CallR X (.builtin "min") (rMinL X.K) := by
  intro pins s σ H vs us Q I r h
  obtain ⟨a, xs, d, ds, rfl, hs, hd, al, dp, q⟩ := h
  obtain ⟨its, rv, hl, _⟩ := I.list hs
  rw [Vals.ref1 r]
  obtain ⟨as, hr⟩ := Dp.readsAll I _ _ its hd rv
  have hn : its.toArray.size = ds.length + 1 := PySem.W.readsAll_len (vs := its.toArray) hr
  refine PySem.call_min_walkH (PySem.W.iter_listW (A := X.A.in1) (I.ok.hd hc) (show s.heap.IsList a its.toArray from hl.isList) fun s₂ e W st hfp hw hk => ?_)
  refine ⟨_, _, _, _, _, _, _, s.heap, _, rfl, W, st, hfp, by omega, hw, hk, PySem.W.cmpIn_lt (A := X.A.in1) hr al (by show X.A.units + 1 + _ < _; omega), fun v s' hP m => ?_⟩
  obtain ⟨h', tk, rfl, hk'⟩ := PySem.W.moved_old e rfl m
  have e1 : its.toArray.size - 1 = ds.length := by omega
  obtain ⟨b1, b2⟩ := PySem.W.argBest_fold PySem.W.dataLt PyData.none d ds ds.length (Nat.le_refl _)
  rw [List.take_length] at b2
  rw [e1] at hP
  generalize PySem.argBest (fun i j => PySem.W.dataLt ((d :: ds).getD i PyData.none) ((d :: ds).getD j PyData.none)) ds.length = j at *
  have hP : its.toArray[j]? = some v := hP
  have lx := Vals.length rv
  have li : its.length = ds.length + 1 := by simpa using hn
  have jx : j < xs.length := by omega
  obtain ⟨u, hu2, ru⟩ := Vals.get rv (List.getElem?_eq_getElem jx)
  rw [List.getElem?_toArray, hu2] at hP
  cases hP
  have b1' : j < (d :: ds).length := by rw [List.length_cons]; omega
  refine ⟨xs[j], H, I.kept hk', ru, q j _ (List.getElem?_eq_getElem jx) ?_⟩
  rw [List.getElem?_eq_getElem b1']
  rw [List.getD_eq_getElem?_getD, List.getElem?_eq_getElem b1'] at b2
  exact congrArg some b2
end
end Mz

set_option Elab.async false
set_option linter.all false
/-! the rules with program and world named -/
namespace Mz
open PySem PySem.Spec PyProof.Rows L2
section
variable {X : Cx} {P : Program} {w : World}
theorem pe_newN {pos : Pos} (hP : X.prog = P) (hw : X.w = w) : PE X (.Dict [] [] pos) (tNewKN P w) := by
  subst hP hw
  exact pe_dnewKN
theorem pe_setN {o e f : Expr} {td ty tx : TE} {apos cpos : Pos} (hP : X.prog = P) (hw : X.w = w) (hu : X.A.units + 10 < cLine) (ho : PE X o td) (he : PE X e ty) (hf : PE X f tx) (m : M2 X o "setdefault" apos e f cpos) : PE X (.Call (.Attribute o "setdefault" apos) [e, f] [] cpos) (tSetKN P w td ty tx) := by
  subst hP hw
  exact pe_dsetKN hu ho he hf m
theorem pe_getN2 {o e f : Expr} {td ty tx : TE} {apos cpos : Pos} (hP : X.prog = P) (hw : X.w = w) (hu : X.A.units + 10 < cLine) (ho : PE X o td) (he : PE X e ty) (hf : PE X f tx) (m : M2 X o "get" apos e f cpos) : PE X (.Call (.Attribute o "get" apos) [e, f] [] cpos) (tGet2N P w td ty tx) := by
  subst hP hw
  exact pe_dget2N hu ho he hf m
theorem pc_inN {i o : Expr} {ty td : TE} (hP : X.prog = P) (hw : X.w = w) (hu : X.A.units + 10 < cLine) (hi : PE X i ty) (ho : PE X o td) : PC X .In i o (tInN P w ty td) := by
  subst hP hw
  exact pc_dinN hu hi ho
theorem pi_itmN {e : Expr} {td : TE} {apos cpos : Pos} {elts : List Expr} {kk : Nat} {tpos : Pos} (hP : X.prog = P) (hw : X.w = w) (he : PE X e td) (hbase : attributeBase e "items" X.env (eval e X.env) = eval e X.env := by rfl) (hline : (apos.endLine == cpos.line) = true := by rfl) :
    PI X (.Tuple elts kk tpos) (.Call (.Attribute e "items" apos) [] [] cpos) (iItemsN P w td) := by
  subst hP hw
  exact pi_itemsN he hbase hline
theorem ps_compN {i : Nat} {y : Str} {py : Pos} {spos : Pos} {kx vx tg iter : Expr} {ifs : List Expr} {scope : Scope} {own : List (Str × Nat)} {pos : Pos} {wi : TI} {g : TG} {tt : TT} {tk tv : TE} (hP : X.prog = P) (hw : X.w = w) (hy : X.N[i]? = some y) (hyl : X.env.scope.names.lookup y = some .local) (hsw : swapsWith (.DictComp kx vx [⟨tg, iter, ifs, 0⟩] scope pos) (some (.Name y py)) spos.line X.env = pure true) (hu : X.A.units + 10 < cLine) (hc : X.calm = true) (hN : X.N.Nodup) (hi : PI X tg iter wi) (ok : BlkOk X.N X.env.scope scope own)
    (hg : ∀ (s : Shared) (H : Hp) (C : Addr) (cl : List (Str × Addr)) (fp : List Addr), PG (X.blk s H scope (compEnvC scope cl C X.env) fp) tg g) (ht : ∀ (s : Shared) (H : Hp) (C : Addr) (cl : List (Str × Addr)) (fp : List Addr), PTs (X.blk s H scope (compEnvC scope cl C X.env) fp) ifs tt)
    (hk : ∀ (s : Shared) (H : Hp) (C : Addr) (cl : List (Str × Addr)) (fp : List Addr), PE (X.blk s H scope (compEnvC scope cl C X.env) fp) kx tk) (he : ∀ (s : Shared) (H : Hp) (C : Addr) (cl : List (Str × Addr)) (fp : List Addr), PE (X.blk s H scope (compEnvC scope cl C X.env) fp) vx tv) (hs : ∀ x, foldedSetIterable iter X.env x = pure x := by intro _; rfl) :
    PS X (.Assign [.Name y py] (.DictComp kx vx [⟨tg, iter, ifs, 0⟩] scope pos) spos) (tAsg (tDcN P w wi g tt tk tv (own.map (·.2))) (gName i)) := by
  subst hP hw
  exact ps_setDcN hy hyl hsw hu hc hN hi ok hg ht hk he hs
end
end Mz

set_option Elab.async false
set_option linter.all false
/-! every state of a least machine is reached; a least machine with one other move answers otherwise -/
namespace Mz
open PySem PySem.Spec PyProof.Rows L2
section
variable {M : Mach} {G : List Int}
theorem ordStep_from : ∀ {row o : List Int} {c : Int}, c ∈ ordStep G row o → c ∈ o ∨ ∃ (a : Nat) (z : Int), row[a]? = some z ∧ c = cls G z
  | [], o, c, h => .inl h
  | z :: row, o, c, h => by
    have h : c ∈ ordStep G row (addC o (cls G z)) := h
    rcases ordStep_from h with q | ⟨a, y, h1, h2⟩
    · unfold addC at q
      by_cases m : cls G z ∈ o
      · rw [if_pos m] at q
        exact .inl q
      · rw [if_neg m] at q
        rcases List.mem_append.mp q with q | q
        · exact .inl q
        · exact .inr ⟨0, z, rfl, List.mem_singleton.mp q⟩
    · exact .inr ⟨a + 1, y, by simpa using h1, h2⟩
theorem plc_get {o : List Int} (n : o.Nodup) {i : Nat} {c : Int} (h : o[i]? = some c) : plc o c = i := by
  obtain ⟨l, e⟩ := plc_at (List.mem_of_getElem? h)
  exact (List.getElem?_inj l n).mp (e.trans h.symm)
theorem pre_get {l1 l2 : List Int} (h : l1 <+: l2) {i : Nat} {c : Int} (e : l1[i]? = some c) : l2[i]? = some c := by
  obtain ⟨t, rfl⟩ := h
  have := (List.getElem?_eq_some_iff.mp e).1
  rw [List.getElem?_append_left this]
  exact e
/-- every state of the least machine is reached -/
theorem least_reach (g : Good M) (r : Rep (EqM M) M.rows.length G) : ∀ k, k ≤ M.rows.length → ∀ c ∈ ordAt M G k, ∃ v, Lt M.ls v ∧ (leastBy M G (ordAt M G M.rows.length)).run 0 v = ((plc (ordAt M G M.rows.length) c : Nat) : Int)
  | 0, _, c, h => by
    rw [List.mem_singleton.mp h]
    have p := ord_pre (M := M) (G := G) 0 M.rows.length
    rw [Nat.zero_add] at p
    have e := pre_get p (i := 0) (c := cls G 0) rfl
    refine ⟨[], (fun _ h => by cases h), ?_⟩
    rw [plc_get (ord_ok g r _).1 e]
    rfl
  | k + 1, le, c, h => by
    have ih := least_reach g r k (by omega)
    by_cases lt : k < (ordAt M G k).length
    · have ek := List.getElem?_eq_getElem lt
      have e : (ordAt M G k).getD k 0 = (ordAt M G k)[k] := by
        rw [List.getD_eq_getElem?_getD, ek]
        rfl
      have h : c ∈ ordStep G (M.rows.getD ((ordAt M G k).getD k 0).toNat []) (ordAt M G k) := by
        unfold ordAt at h
        rw [if_pos lt] at h
        exact h
      rcases ordStep_from h with q | ⟨a, z, h1, h2⟩
      · exact ih c q
      · rw [e] at h1
        have rp := (ord_ok g r k).2 _ (List.mem_of_getElem? ek)
        obtain ⟨v, hv, ev⟩ := ih _ (List.mem_of_getElem? ek)
        have p := ord_pre (M := M) (G := G) k (M.rows.length - k)
        rw [show k + (M.rows.length - k) = M.rows.length by omega] at p
        have eO := pre_get p ek
        obtain ⟨w, w1, w2, w3⟩ := g.row rp.1
        have al : a < w.length := by
          rw [w3] at h1
          exact (List.getElem?_eq_some_iff.mp h1).1
        have wl := g.rl w w2
        refine ⟨v ++ [(a : Int)], lt_snoc.mpr ⟨hv, by omega, by omega⟩, ?_⟩
        rw [run_snoc, ev, plc_get (ord_ok g r _).1 eO]
        unfold Mach.next
        have lr := leastBy_row (M := M) (G := G) eO
        rw [show ((k : Nat) : Int).toNat = k by omega, show ((a : Nat) : Int).toNat = a by omega, List.getD_eq_getElem?_getD (l := (leastBy M G (ordAt M G M.rows.length)).rows), lr, Option.getD_some, List.getD_eq_getElem?_getD, List.getElem?_map, h1, h2]
        rfl
    · unfold ordAt at h
      rw [if_neg lt] at h
      exact ih c h
/-- a machine all whose states are reached and parted -/
structure Full (L : Mach) : Prop where
  good : Good L
  reach : ∀ s, L.St s → ∃ v, Lt L.ls v ∧ L.run 0 v = s
  apart : ∀ s t, L.St s → L.St t → Sim L L s t → s = t
theorem least_isfull (g : Good M) (r : Rep (EqM M) M.rows.length G) : Full (leastBy M G (ordAt M G M.rows.length)) where
  good := leastBy_good g r
  reach := fun s hs => by
    have i0 := hs.1
    have i1 := hs.2
    rw [leastBy_len] at i1
    have ei := List.getElem?_eq_getElem (show s.toNat < (ordAt M G M.rows.length).length by omega)
    obtain ⟨v, h1, h2⟩ := least_reach g r _ (Nat.le_refl _) _ (List.mem_of_getElem? ei)
    refine ⟨v, h1, ?_⟩
    rw [h2, plc_get (ord_ok g r _).1 ei]
    omega
  apart := fun s t hs ht sm => by
    refine Classical.byContradiction fun ne => ?_
    obtain ⟨u, pu⟩ := least_parts g r hs ht ne
    have b := pu.bad
    unfold Bad at b
    rw [runP_pair] at b
    exact b (sm u pu.lt)
end
/-- one move leads to another state -/
def chg (L : Mach) (p : Pr) : Mach := { L with rows := L.rows.set p.1.toNat ((L.rows.getD p.1.toNat []).set p.2.toNat (if L.next p.1 p.2 = 0 then 1 else 0)) }
section
variable {L : Mach} {p : Pr}
theorem chg_len : (chg L p).rows.length = L.rows.length := List.length_set ..
theorem chg_st {s : Int} : (chg L p).St s ↔ L.St s := by
  unfold Mach.St
  rw [chg_len]
theorem chg_out (s : Int) : (chg L p).out s = L.out s := rfl
theorem chg_good (g : Good L) (h2 : 2 ≤ L.rows.length) (hp : L.St p.1) : Good (chg L p) := by
  obtain ⟨w, e1, e2, e3⟩ := g.row hp
  refine ⟨g.l1, g.l4, g.o1, g.o6, by rw [chg_len]; exact g.s1, by rw [chg_len]; exact g.s30, by rw [chg_len]; exact g.ol, fun x hx => ?_, fun x hx z hz => ?_, g.ob⟩
  · rcases List.mem_or_eq_of_mem_set hx with h | h
    · exact g.rl x h
    · rw [h, List.length_set, e3]
      exact g.rl w e2
  · rw [chg_len]
    rcases List.mem_or_eq_of_mem_set hx with h | h
    · exact g.rb x h z hz
    · rw [h, e3] at hz
      rcases List.mem_or_eq_of_mem_set hz with q | q
      · exact g.rb w e2 z q
      · rw [q]
        split <;> omega
theorem chg_next (g : Good L) (hp : L.St p.1) (h0 : 0 ≤ p.2) (h1 : p.2 < L.ls) {s a : Int} (hs : L.St s) (ha : 0 ≤ a) : (chg L p).next s a = if (s, a) = p then (if L.next p.1 p.2 = 0 then 1 else 0) else L.next s a := by
  obtain ⟨w, e1, e2, e3⟩ := g.row hp
  have wl := g.rl w e2
  have p0 := hp.1
  have p1 := hp.2
  have s0 := hs.1
  have s1 := hs.2
  show ((L.rows.set p.1.toNat ((L.rows.getD p.1.toNat []).set p.2.toNat (if L.next p.1 p.2 = 0 then 1 else 0))).getD s.toNat []).getD a.toNat 0 = _
  generalize (if L.next p.1 p.2 = 0 then (1 : Int) else 0) = t
  rw [e3]
  by_cases es : s = p.1
  · rw [es, List.getD_eq_getElem?_getD (l := L.rows.set _ _), List.getElem?_set_self (by omega), Option.getD_some]
    by_cases ea : a = p.2
    · rw [if_pos (by rw [ea]), ea, List.getD_eq_getElem?_getD, List.getElem?_set_self (by omega)]
      rfl
    · rw [if_neg (fun z => ea (by rw [← z])), List.getD_eq_getElem?_getD, List.getElem?_set_ne (by omega), ← List.getD_eq_getElem?_getD, ← e3]
      rfl
  · rw [if_neg (fun z => es (by rw [← z])), List.getD_eq_getElem?_getD (l := L.rows.set _ _), List.getElem?_set_ne (by omega), ← List.getD_eq_getElem?_getD]
    rfl
/-- words that don't make the move lead alike -/
theorem chg_run (g : Good L) (hp : L.St p.1) (h0 : 0 ≤ p.2) (h1 : p.2 < L.ls) : ∀ v : List Int, Lt L.ls v → (∀ j a, v[j]? = some a → (L.run 0 (v.take j), a) ≠ p) → (chg L p).run 0 v = L.run 0 v := by
  intro v
  induction v using snoc_ind with
  | h0 => exact fun _ _ => rfl
  | hs v a ih =>
    intro hv no
    obtain ⟨v1, a0, a1⟩ := lt_snoc.mp hv
    have e := ih v1 fun j b hj => by
      have jl := (List.getElem?_eq_some_iff.mp hj).1
      have := no j b (by rw [List.getElem?_append_left jl]; exact hj)
      rw [List.take_append_of_le_length (by omega)] at this
      exact this
    have n := no v.length a (by simp)
    rw [List.take_append_of_le_length (Nat.le_refl _), List.take_length] at n
    rw [run_snoc, run_snoc, e, chg_next g hp h0 h1 (g.runs g.st0 v1) a0, if_neg n]
/-- a shortest word to a state -/
theorem short_word (F : Full L) {s : Int} (hs : L.St s) : ∃ v, Lt L.ls v ∧ L.run 0 v = s ∧ ∀ j, j < v.length → L.run 0 (v.take j) ≠ s := by
  obtain ⟨v, h1, h2⟩ := F.reach s hs
  have : ∀ n, ∀ v : List Int, v.length = n → Lt L.ls v → L.run 0 v = s → ∃ v, Lt L.ls v ∧ L.run 0 v = s ∧ ∀ j, j < v.length → L.run 0 (v.take j) ≠ s := by
    intro n
    induction n using Nat.strongRecOn with
    | ind n ih =>
      intro v hn h1 h2
      by_cases q : ∃ j, j < v.length ∧ L.run 0 (v.take j) = s
      · obtain ⟨j, j1, j2⟩ := q
        exact ih (v.take j).length (by rw [List.length_take]; omega) (v.take j) rfl (fun z hz => h1 z (List.mem_of_mem_take hz)) j2
      · exact ⟨v, h1, h2, fun j hj e => q ⟨j, hj, e⟩⟩
  exact this _ v rfl h1 h2
theorem sim_run {M N : Mach} (ls : M.ls = N.ls) {x y : Int} (s : Sim M N x y) {v : List Int} (hv : Lt M.ls v) : Sim M N (M.run x v) (N.run y v) := fun u hu => by
  have q := s (v ++ u) fun z hz => (List.mem_append.mp hz).elim (hv z) (hu z)
  unfold Mach.run at q ⊢
  rw [List.foldl_append, List.foldl_append] at q
  exact q
theorem sim_back {M N : Mach} {x y z : Int} (s : Sim M N x z) (t : Sim M N y z) : Sim M M x y := fun v hv => (s v hv).trans (t v hv).symm
/-- the machine with another move answers otherwise -/
theorem chg_apart (F : Full L) (h2 : 2 ≤ L.rows.length) (hp : L.St p.1) (h0 : 0 ≤ p.2) (h1 : p.2 < L.ls) : ¬ Sim L (chg L p) 0 0 := by
  intro sm
  have g := F.good
  obtain ⟨v, v1, v2, v3⟩ := short_word F hp
  have e := chg_run g hp h0 h1 v v1 fun j a hj z => v3 j (List.getElem?_eq_some_iff.mp hj).1 (by rw [← z])
  have sp := sim_run (M := L) (N := chg L p) rfl sm v1
  rw [e, v2] at sp
  have st : Sim L (chg L p) (L.next p.1 p.2) ((chg L p).next p.1 p.2) := sim_run (M := L) (N := chg L p) rfl sp (v := [p.2]) fun z hz => by
    rw [List.mem_singleton.mp hz]
    exact ⟨h0, h1⟩
  rw [chg_next g hp h0 h1 hp h0, if_pos rfl] at st
  by_cases c : L.next p.1 p.2 = 0
  · rw [if_pos c, c] at st
    have ch : ∀ i : Nat, ∃ y : Nat, i + 1 < L.rows.length → y < L.rows.length - 2 ∧ Sim L (chg L p) ((i : Int) + 1) ((y : Int) + 2) := fun i => by
      by_cases l : i + 1 < L.rows.length
      · have hi : L.St ((i : Int) + 1) := ⟨by omega, by omega⟩
        obtain ⟨u, u1, u2⟩ := F.reach _ hi
        have su := sim_run (M := L) (N := chg L p) rfl sm u1
        rw [u2] at su
        have so := chg_st.mp ((chg_good g h2 hp).runs (chg_st.mpr g.st0) u1)
        have n0 : (chg L p).run 0 u ≠ 0 := fun z => by
          rw [z] at su
          have := F.apart _ _ hi g.st0 (sim_back su sm)
          omega
        have n1 : (chg L p).run 0 u ≠ 1 := fun z => by
          rw [z] at su
          have := F.apart _ _ hi g.st0 (sim_back su st)
          omega
        have a1 := so.1
        have a2 := so.2
        refine ⟨((chg L p).run 0 u).toNat - 2, fun _ => ⟨by omega, ?_⟩⟩
        rw [show ((((chg L p).run 0 u).toNat - 2 : Nat) : Int) + 2 = (chg L p).run 0 u by omega]
        exact su
      · exact ⟨0, fun z => absurd z l⟩
    have few := nodup_few (L.rows.length - 2) ((List.range (L.rows.length - 1)).map fun i => Classical.choose (ch i)) ?_ ?_
    · rw [List.length_map, List.length_range] at few
      omega
    · refine List.pairwise_map.mpr (List.Pairwise.imp_of_mem (fun {i j} hi hj lt e => ?_) List.pairwise_lt_range)
      have hi := List.mem_range.mp hi
      have hj := List.mem_range.mp hj
      have a := (Classical.choose_spec (ch i) (by omega)).2
      have b := (Classical.choose_spec (ch j) (by omega)).2
      rw [e] at a
      have := F.apart _ _ ⟨by omega, by omega⟩ ⟨by omega, by omega⟩ (sim_back a b)
      omega
    · intro x hx
      obtain ⟨i, hi, rfl⟩ := List.mem_map.mp hx
      exact (Classical.choose_spec (ch i) (by have := List.mem_range.mp hi; omega)).1
  · rw [if_neg c] at st
    have s1 := (g.step hp h0 h1).1
    exact c (F.apart _ _ s1 g.st0 (sim_back st sm))
end
end Mz

set_option Elab.async false
set_option linter.all false
set_option maxRecDepth 100000
set_option maxHeartbeats 4000000
/-! two machines side by side; least machines that are full; how many pairs are met -/
namespace Mz
open PySem PySem.Spec PyProof.Rows L2
def mineW (k : Int) (w : List Int) : List Int := w.filter fun a => decide (a < k)
def restW (k : Int) (w : List Int) : List Int := (w.filter fun a => decide (k ≤ a)).map fun a => a - k
def brow (n : Nat) (u v : List Int) (s t : Int) : List Int := (u.map fun z => z * n + t) ++ v.map fun z => s * n + z
def beRow (A B : Mach) (i : Nat) : List Int := brow B.rows.length (A.rows.getD (i / B.rows.length) []) (B.rows.getD (i % B.rows.length) []) ((i / B.rows.length : Nat) : Int) ((i % B.rows.length : Nat) : Int)
def beOut (A B : Mach) (i : Nat) : Int := A.out ((i / B.rows.length : Nat) : Int) * B.os + B.out ((i % B.rows.length : Nat) : Int)
def beM (A B : Mach) : Mach := ⟨A.ls + B.ls, A.os * B.os, (List.range (A.rows.length * B.rows.length)).map (beRow A B), (List.range (A.rows.length * B.rows.length)).map (beOut A B)⟩
theorem pr_div {n : Nat} {s t : Int} (hs : 0 ≤ s) (ht : 0 ≤ t) (hn : t < n) : 0 ≤ s * n + t ∧ (s * n + t).toNat / n = s.toNat ∧ (s * n + t).toNat % n = t.toNat := by
  obtain ⟨a, rfl⟩ := Int.eq_ofNat_of_zero_le hs
  obtain ⟨b, rfl⟩ := Int.eq_ofNat_of_zero_le ht
  have e : ((a : Int) * (n : Int) + (b : Int)) = ((a * n + b : Nat) : Int) := by
    rw [Int.natCast_add, Int.natCast_mul]
  have hb : b < n := by omega
  rw [e, Int.toNat_natCast, Int.toNat_natCast, Int.toNat_natCast]
  refine ⟨by omega, ?_, ?_⟩
  · rw [Nat.add_comm, Nat.add_mul_div_right _ _ (by omega), Nat.div_eq_of_lt hb, Nat.zero_add]
  · rw [Nat.add_comm, Nat.add_mul_mod_self_right, Nat.mod_eq_of_lt hb]
theorem pr_lt {m n : Nat} {s t : Int} (hs : 0 ≤ s) (hm : s < m) (ht : 0 ≤ t) (hn : t < n) : (s * n + t).toNat < m * n := by
  obtain ⟨a, rfl⟩ := Int.eq_ofNat_of_zero_le hs
  obtain ⟨b, rfl⟩ := Int.eq_ofNat_of_zero_le ht
  have e : ((a : Int) * (n : Int) + (b : Int)) = ((a * n + b : Nat) : Int) := by
    rw [Int.natCast_add, Int.natCast_mul]
  have hb : b < n := by omega
  have ha : a + 1 ≤ m := by omega
  have := Nat.mul_le_mul_right n ha
  rw [Nat.add_mul, Nat.one_mul] at this
  rw [e, Int.toNat_natCast]
  omega
theorem mix_inj {a b c d m : Int} (b0 : 0 ≤ b) (b1 : b < m) (d0 : 0 ≤ d) (d1 : d < m) (h : a * m + b = c * m + d) : a = c ∧ b = d := by
  have e1 : (b + a * m) % m = b := by rw [Int.add_mul_emod_self_right]; exact Int.emod_eq_of_lt b0 b1
  have e2 : (d + c * m) % m = d := by rw [Int.add_mul_emod_self_right]; exact Int.emod_eq_of_lt d0 d1
  have bd : b = d := by
    rw [← e1, ← e2, Int.add_comm b, Int.add_comm d, h]
  subst bd
  exact ⟨Int.eq_of_mul_eq_mul_right (by omega) (by omega : a * m = c * m), rfl⟩
theorem st_nat {M : Mach} {i : Nat} (h : i < M.rows.length) : M.St (i : Int) := ⟨Int.natCast_nonneg _, Int.ofNat_lt.mpr h⟩
section
variable {A B : Mach}
theorem be_len : (beM A B).rows.length = A.rows.length * B.rows.length := by
  show ((List.range _).map _).length = _
  rw [List.length_map, List.length_range]
theorem be_st {s t : Int} (hs : A.St s) (ht : B.St t) : (beM A B).St (s * B.rows.length + t) := by
  have h1 := pr_div hs.1 ht.1 ht.2
  have h2 := pr_lt hs.1 hs.2 ht.1 ht.2
  refine ⟨h1.1, ?_⟩
  rw [be_len]
  have := h1.1
  omega
theorem be_row {s t : Int} (hs : A.St s) (ht : B.St t) : (beM A B).rows.getD (s * B.rows.length + t).toNat [] = brow B.rows.length (A.rows.getD s.toNat []) (B.rows.getD t.toNat []) s t := by
  have h1 := pr_div hs.1 ht.1 ht.2
  have h2 := pr_lt hs.1 hs.2 ht.1 ht.2
  show ((List.range _).map _).getD _ _ = _
  rw [List.getD_eq_getElem?_getD, List.getElem?_map, List.getElem?_range h2]
  show beRow A B _ = _
  unfold beRow
  rw [h1.2.1, h1.2.2, Int.toNat_of_nonneg hs.1, Int.toNat_of_nonneg ht.1]
theorem be_out {s t : Int} (hs : A.St s) (ht : B.St t) : (beM A B).out (s * B.rows.length + t) = A.out s * B.os + B.out t := by
  have h1 := pr_div hs.1 ht.1 ht.2
  have h2 := pr_lt hs.1 hs.2 ht.1 ht.2
  show ((List.range _).map _).getD _ _ = _
  rw [List.getD_eq_getElem?_getD, List.getElem?_map, List.getElem?_range h2]
  show beOut A B _ = _
  unfold beOut
  rw [h1.2.1, h1.2.2, Int.toNat_of_nonneg hs.1, Int.toNat_of_nonneg ht.1]
theorem be_next1 (gA : Good A) (gB : Good B) {s t a : Int} (hs : A.St s) (ht : B.St t) (h0 : 0 ≤ a) (h1 : a < A.ls) : (beM A B).next (s * B.rows.length + t) a = A.next s a * B.rows.length + t := by
  show ((beM A B).rows.getD _ []).getD _ _ = _
  rw [be_row hs ht]
  obtain ⟨w, e1, e2, e3⟩ := gA.row hs
  have wl := gA.rl w e2
  unfold brow
  rw [e3, List.getD_eq_getElem?_getD, List.getElem?_append_left (by rw [List.length_map]; omega), List.getElem?_map]
  have lt : a.toNat < w.length := by omega
  unfold Mach.next
  rw [e3, List.getD_eq_getElem?_getD, List.getElem?_eq_getElem lt]
  rfl
theorem be_next2 (gA : Good A) (gB : Good B) {s t a : Int} (hs : A.St s) (ht : B.St t) (h0 : A.ls ≤ a) (h1 : a < A.ls + B.ls) : (beM A B).next (s * B.rows.length + t) a = s * B.rows.length + B.next t (a - A.ls) := by
  show ((beM A B).rows.getD _ []).getD _ _ = _
  rw [be_row hs ht]
  obtain ⟨w, e1, e2, e3⟩ := gA.row hs
  have wl := gA.rl w e2
  obtain ⟨u, f1, f2, f3⟩ := gB.row ht
  have ul := gB.rl u f2
  have := gA.l1
  unfold brow
  rw [e3, f3, List.getD_eq_getElem?_getD, List.getElem?_append_right (by rw [List.length_map]; omega), List.length_map, List.getElem?_map]
  have ei : a.toNat - w.length = (a - A.ls).toNat := by omega
  have lt : (a - A.ls).toNat < u.length := by omega
  unfold Mach.next
  rw [ei, f3, List.getD_eq_getElem?_getD, List.getElem?_eq_getElem lt]
  rfl
theorem be_run (gA : Good A) (gB : Good B) : ∀ (w : List Int) (s t : Int), A.St s → B.St t → Lt (A.ls + B.ls) w →
    A.St (A.run s (mineW A.ls w)) ∧ B.St (B.run t (restW A.ls w)) ∧ (beM A B).run (s * B.rows.length + t) w = A.run s (mineW A.ls w) * B.rows.length + B.run t (restW A.ls w)
  | [], s, t, hs, ht, _ => ⟨hs, ht, rfl⟩
  | a :: w, s, t, hs, ht, hw => by
    have ha := hw a List.mem_cons_self
    have hw' : Lt (A.ls + B.ls) w := fun z hz => hw z (List.mem_cons_of_mem _ hz)
    show _ ∧ _ ∧ (beM A B).run ((beM A B).next _ a) w = _
    by_cases c : a < A.ls
    · have e1 : mineW A.ls (a :: w) = a :: mineW A.ls w := by
        unfold mineW
        rw [List.filter_cons_of_pos (by simpa using c)]
      have e2 : restW A.ls (a :: w) = restW A.ls w := by
        unfold restW
        rw [List.filter_cons_of_neg (by simpa using c)]
      rw [e1, e2, be_next1 gA gB hs ht ha.1 c]
      exact be_run gA gB w _ t (gA.step hs ha.1 c).1 ht hw'
    · have e1 : mineW A.ls (a :: w) = mineW A.ls w := by
        unfold mineW
        rw [List.filter_cons_of_neg (by simpa using c)]
      have e2 : restW A.ls (a :: w) = (a - A.ls) :: restW A.ls w := by
        unfold restW
        rw [List.filter_cons_of_pos (by simp only [decide_eq_true_eq]; omega), List.map_cons]
      rw [e1, e2, be_next2 gA gB hs ht (by omega) ha.2]
      exact be_run gA gB w s _ hs (gB.step ht (by omega) (by omega)).1 hw'
theorem mine_lt {k m : Int} {w : List Int} (h : Lt m w) : Lt k (mineW k w) := fun z hz => by
  have := List.mem_filter.mp hz
  exact ⟨(h z this.1).1, by simpa using this.2⟩
theorem rest_lt {k m : Int} {w : List Int} (h : Lt (k + m) w) : Lt m (restW k w) := fun z hz => by
  obtain ⟨y, hy, rfl⟩ := List.mem_map.mp hz
  have := List.mem_filter.mp hy
  have h1 := h y this.1
  have h2 : k ≤ y := by simpa using this.2
  omega
theorem mine_all {k : Int} {w : List Int} (h : Lt k w) : mineW k w = w ∧ restW k w = [] := by
  refine ⟨List.filter_eq_self.mpr fun a ha => by simpa using (h a ha).2, ?_⟩
  unfold restW
  rw [List.filter_eq_nil_iff.mpr fun a ha => by have := (h a ha).2; simp only [decide_eq_true_eq]; omega]
  rfl
theorem rest_all {k m : Int} {w : List Int} (h : Lt m w) : mineW k (w.map fun z => z + k) = [] ∧ restW k (w.map fun z => z + k) = w := by
  have hh : ∀ a ∈ w.map fun z => z + k, k ≤ a := fun a ha => by
    obtain ⟨y, hy, rfl⟩ := List.mem_map.mp ha
    have := (h y hy).1
    omega
  refine ⟨List.filter_eq_nil_iff.mpr fun a ha => by have := hh a ha; simp only [decide_eq_true_eq]; omega, ?_⟩
  unfold restW
  rw [List.filter_eq_self.mpr fun a ha => by simpa using hh a ha, List.map_map]
  have : ((fun a => a - k) ∘ fun z : Int => z + k) = id := by
    funext z
    show z + k - k = z
    omega
  rw [this, List.map_id]
theorem be_good (gA : Good A) (gB : Good B) (hl : A.ls + B.ls ≤ 4) (ho : A.os * B.os ≤ 6) (hn : A.rows.length * B.rows.length ≤ 30) : Good (beM A B) := by
  have a1 := gA.s1
  have b1 := gB.s1
  have div : ∀ i, i < A.rows.length * B.rows.length → i / B.rows.length < A.rows.length ∧ i % B.rows.length < B.rows.length := fun i hi =>
    ⟨Nat.div_lt_of_lt_mul (by rw [Nat.mul_comm]; exact hi), Nat.mod_lt _ (by omega)⟩
  refine ⟨?_, hl, ?_, ho, ?_, ?_, ?_, fun w hw => ?_, fun w hw z hz => ?_, fun z hz => ?_⟩
  · have := gA.l1
    have := gB.l1
    show 1 ≤ A.ls + B.ls
    omega
  · exact Int.mul_le_mul (a := 1) (b := 1) (c := A.os) (d := B.os) gA.o1 gB.o1 (by decide) (by have := gA.o1; omega)
  · rw [be_len]
    exact Nat.mul_le_mul a1 b1
  · rw [be_len]
    exact hn
  · rw [be_len]
    show ((List.range _).map _).length = _
    rw [List.length_map, List.length_range]
  · obtain ⟨i, hi, rfl⟩ := List.mem_map.mp hw
    have hi := div i (List.mem_range.mp hi)
    have sA : A.St ((i / B.rows.length : Nat) : Int) := st_nat hi.1
    have sB : B.St ((i % B.rows.length : Nat) : Int) := st_nat hi.2
    obtain ⟨w, e1, e2, e3⟩ := gA.row sA
    obtain ⟨u, f1, f2, f3⟩ := gB.row sB
    rw [Int.toNat_natCast] at e3 f3
    have wl := gA.rl w e2
    have ul := gB.rl u f2
    unfold beRow brow
    rw [e3, f3, List.length_append, List.length_map, List.length_map]
    show _ = A.ls + B.ls
    omega
  · obtain ⟨i, hi, rfl⟩ := List.mem_map.mp hw
    have hi := div i (List.mem_range.mp hi)
    have sA : A.St ((i / B.rows.length : Nat) : Int) := st_nat hi.1
    have sB : B.St ((i % B.rows.length : Nat) : Int) := st_nat hi.2
    obtain ⟨w, e1, e2, e3⟩ := gA.row sA
    obtain ⟨u, f1, f2, f3⟩ := gB.row sB
    rw [Int.toNat_natCast] at e3 f3
    unfold beRow brow at hz
    rw [e3, f3] at hz
    rcases List.mem_append.mp hz with q | q
    · obtain ⟨y, hy, rfl⟩ := List.mem_map.mp q
      have := gA.rb w e2 y hy
      exact be_st (A := A) (B := B) ⟨this.1, this.2⟩ sB
    · obtain ⟨y, hy, rfl⟩ := List.mem_map.mp q
      have := gB.rb u f2 y hy
      exact be_st (A := A) (B := B) sA ⟨this.1, this.2⟩
  · obtain ⟨i, hi, rfl⟩ := List.mem_map.mp hz
    have hi := div i (List.mem_range.mp hi)
    have oA := (gA.outp (s := ((i / B.rows.length : Nat) : Int)) (st_nat hi.1)).2
    have oB := (gB.outp (s := ((i % B.rows.length : Nat) : Int)) (st_nat hi.2)).2
    unfold beOut
    generalize A.out _ = x at *
    generalize B.out _ = y at *
    show 0 ≤ _ ∧ _ < A.os * B.os
    have h1 : 0 ≤ x * B.os := Int.mul_nonneg oA.1 (by omega)
    have h2 : (x + 1) * B.os ≤ A.os * B.os := Int.mul_le_mul_of_nonneg_right (by omega) (by omega)
    rw [Int.add_mul, Int.one_mul] at h2
    omega
theorem be_split (gB : Good B) {s : Int} (h : (beM A B).St s) : ∃ x y, A.St x ∧ B.St y ∧ s = x * B.rows.length + y := by
  have h0 := h.1
  have h1 := h.2
  rw [be_len] at h1
  have b1 := gB.s1
  have lt : s.toNat < A.rows.length * B.rows.length := by omega
  have d1 : s.toNat / B.rows.length < A.rows.length := Nat.div_lt_of_lt_mul (by rw [Nat.mul_comm]; exact lt)
  have d2 : s.toNat % B.rows.length < B.rows.length := Nat.mod_lt _ (by omega)
  refine ⟨((s.toNat / B.rows.length : Nat) : Int), ((s.toNat % B.rows.length : Nat) : Int), st_nat d1, st_nat d2, ?_⟩
  have := Nat.div_add_mod s.toNat B.rows.length
  rw [← Int.natCast_mul, ← Int.natCast_add, Nat.mul_comm, this]
  omega
theorem be_full (fA : Full A) (fB : Full B) (hl : A.ls + B.ls ≤ 4) (ho : A.os * B.os ≤ 6) (hn : A.rows.length * B.rows.length ≤ 30) : Full (beM A B) where
  good := be_good fA.good fB.good hl ho hn
  reach := fun s hs => by
    obtain ⟨x, y, hx, hy, rfl⟩ := be_split fB.good hs
    obtain ⟨v, v1, v2⟩ := fA.reach x hx
    obtain ⟨u, u1, u2⟩ := fB.reach y hy
    have lt : Lt (A.ls + B.ls) (v ++ u.map fun z => z + A.ls) := fun z hz => by
      have := fA.good.l1
      have := fB.good.l1
      rcases List.mem_append.mp hz with q | q
      · have := v1 z q
        omega
      · obtain ⟨q1, hq, rfl⟩ := List.mem_map.mp q
        have := u1 q1 hq
        omega
    refine ⟨_, lt, ?_⟩
    have e0 : (0 : Int) = 0 * B.rows.length + 0 := by omega
    have := (be_run fA.good fB.good _ 0 0 fA.good.st0 fB.good.st0 lt).2.2
    rw [← e0] at this
    rw [this]
    have m1 := mine_all v1
    have m2 := rest_all (k := A.ls) u1
    have a1 : mineW A.ls (v ++ u.map fun z => z + A.ls) = v := by
      unfold mineW at m1 m2 ⊢
      rw [List.filter_append, m1.1, m2.1, List.append_nil]
    have a2 : restW A.ls (v ++ u.map fun z => z + A.ls) = u := by
      have q1 := m1.2
      have q2 := m2.2
      unfold restW at q1 q2 ⊢
      rw [List.filter_append, List.map_append, q1, q2, List.nil_append]
    rw [a1, a2, v2, u2]
  apart := fun s t hs ht sm => by
    obtain ⟨x, y, hx, hy, rfl⟩ := be_split fB.good hs
    obtain ⟨x2, y2, hx2, hy2, rfl⟩ := be_split fB.good ht
    have la := fA.good.l1
    have lb := fB.good.l1
    have both : ∀ w, Lt (A.ls + B.ls) w → A.out (A.run x (mineW A.ls w)) = A.out (A.run x2 (mineW A.ls w)) ∧ B.out (B.run y (restW A.ls w)) = B.out (B.run y2 (restW A.ls w)) := fun w hw => by
      have h := sm w hw
      obtain ⟨p1, p2, p3⟩ := be_run fA.good fB.good w x y hx hy hw
      obtain ⟨q1, q2, q3⟩ := be_run fA.good fB.good w x2 y2 hx2 hy2 hw
      rw [p3, q3, be_out p1 p2, be_out q1 q2] at h
      have o1 := (fB.good.outp p2).2
      have o2 := (fB.good.outp q2).2
      exact mix_inj o1.1 o1.2 o2.1 o2.2 h
    have ex : x = x2 := fA.apart x x2 hx hx2 fun v hv => by
      have := (both v fun z hz => by have := hv z hz; omega).1
      rwa [(mine_all hv).1] at this
    have ey : y = y2 := fB.apart y y2 hy hy2 fun v hv => by
      have := (both (v.map fun z => z + A.ls) fun z hz => by
        obtain ⟨q, hq, rfl⟩ := List.mem_map.mp hz
        have := hv q hq
        omega).2
      rwa [(rest_all hv).2] at this
    rw [ex, ey]
end
section
variable {M : Mach} {G : List Int}
theorem full_cls (F : Full M) (r : Rep (EqM M) M.rows.length G) {s : Int} (h : M.St s) : cls G s = s := by
  have g := F.good
  have := cls_rp g r h
  exact (F.apart s _ h this.1.1 this.2).symm
theorem full_ord (F : Full M) (r : Rep (EqM M) M.rows.length G) {s : Int} (h : M.St s) : s ∈ ordAt M G M.rows.length := by
  have g := F.good
  obtain ⟨v, hv, e⟩ := F.reach s h
  have run : ∀ (v : List Int) (s : Int), M.St s → s ∈ ordAt M G M.rows.length → Lt M.ls v → M.run s v ∈ ordAt M G M.rows.length := by
    intro v
    induction v with
    | nil => exact fun _ _ h _ => h
    | cons a v ih =>
      intro s hs h hv
      have ha := hv a List.mem_cons_self
      obtain ⟨s2, w, e1, e2⟩ := g.step hs ha.1 ha.2
      have := ord_closed g r h (z := M.next s a) (by
        rw [List.getD_eq_getElem?_getD, e1]
        exact List.mem_of_getElem? e2)
      rw [full_cls F r s2] at this
      exact ih _ s2 this fun z hz => hv z (List.mem_cons_of_mem _ hz)
  have p := ord_pre (M := M) (G := G) 0 M.rows.length
  rw [Nat.zero_add] at p
  have : cls G 0 ∈ ordAt M G M.rows.length := p.subset List.mem_cons_self
  rw [full_cls F r g.st0] at this
  rw [← e]
  exact run v 0 g.st0 this hv
theorem full_len (F : Full M) (r : Rep (EqM M) M.rows.length G) : (ordAt M G M.rows.length).length = M.rows.length := by
  refine Nat.le_antisymm (ord_len F.good r _) ?_
  have n : ((List.range M.rows.length).map fun i : Nat => (i : Int)).Nodup := by
    refine List.Pairwise.map _ ?_ List.nodup_range
    intro a b h e
    exact h (by omega)
  have := n.length_le_of_subset (l₂ := ordAt M G M.rows.length) fun z hz => by
    obtain ⟨i, hi, rfl⟩ := List.mem_map.mp hz
    have := List.mem_range.mp hi
    exact full_ord F r ⟨by omega, by omega⟩
  rwa [List.length_map, List.length_range] at this
/-- the numbers of a machine's states -/
def ids (n : Nat) : List Int := (List.range n).map fun i : Nat => (i : Int)
theorem ids_len {n : Nat} : (ids n).length = n := by
  unfold ids
  rw [List.length_map, List.length_range]
theorem ids_get {n i : Nat} (h : i < n) : (ids n)[i]? = some (i : Int) := by
  unfold ids
  rw [List.getElem?_map, List.getElem?_range h]
  rfl
theorem full_rep (F : Full M) : Rep (EqM M) M.rows.length (ids M.rows.length) := by
  refine ⟨ids_len, fun i hi => ⟨i, ids_get hi, Nat.le_refl _, fun v hv => rfl, fun j hj e => ?_⟩⟩
  have := F.apart (i : Int) (j : Int) ⟨by omega, by omega⟩ ⟨by omega, by omega⟩ e
  omega
/-- the states of a least machine are numbered as they are met -/
theorem least_ids (g : Good M) (r : Rep (EqM M) M.rows.length G) {L : Mach} (e : L = leastBy M G (ordAt M G M.rows.length)) : ordAt L (ids L.rows.length) L.rows.length = ids L.rows.length := by
  have F : Full L := by rw [e]; exact least_isfull g r
  have sim : Sim M L 0 0 := by rw [e]; exact leastBy_sim g r
  have ls : M.ls = L.ls := by rw [e]; rfl
  have rF := full_rep F
  have lL : L.rows.length = (ordAt M G M.rows.length).length := by rw [e, leastBy_len]
  have le := ord_len g r M.rows.length
  have b := both_ord ls g F.good r rF sim M.rows.length
  have w : ordAt L (ids L.rows.length) M.rows.length = ordAt L (ids L.rows.length) L.rows.length := ord_whole F.good rF (by
    have := ord_len F.good rF M.rows.length
    omega)
  rw [w] at b
  have fl := full_len F rF
  refine List.ext_getElem? fun i => ?_
  by_cases hi : i < L.rows.length
  · rw [ids_get hi]
    obtain ⟨c, ei⟩ : ∃ c, (ordAt M G M.rows.length)[i]? = some c := ⟨_, List.getElem?_eq_getElem (show i < (ordAt M G M.rows.length).length by omega)⟩
    obtain ⟨d, hd, h1, h2, h3⟩ := paired_get b ei
    rw [hd]
    have s2 : Sim M L c (i : Int) := fun v hv => by
      rw [e]
      exact leastBy_walk g r v _ _ i hv h1.1 h1.2 ei
    have := F.apart d (i : Int) h2.1 ⟨by omega, by omega⟩ (fun v hv => by
      rw [← ls] at hv
      exact (h3 v hv).symm.trans (s2 v hv))
    rw [this]
  · rw [List.getElem?_eq_none (by rw [fl]; omega), List.getElem?_eq_none (by rw [ids_len]; omega)]
theorem ord_ind {S : Int → Prop} (h0 : S (cls G 0)) (h : ∀ c, S c → ∀ z ∈ M.rows.getD c.toNat [], S (cls G z)) : ∀ k, ∀ c ∈ ordAt M G k, S c
  | 0, c, hc => by
    rw [show ordAt M G 0 = [cls G 0] from rfl] at hc
    rw [List.mem_singleton.mp hc]
    exact h0
  | k + 1, c, hc => by
    unfold ordAt at hc
    by_cases lt : k < (ordAt M G k).length
    · rw [if_pos lt] at hc
      rcases ordStep_from hc with q | ⟨a, z, q1, q2⟩
      · exact ord_ind h0 h k c q
      · rw [q2]
        refine h _ (ord_ind h0 h k ((ordAt M G k).getD k 0) ?_) z (List.mem_of_getElem? q1)
        rw [List.getD_eq_getElem?_getD, List.getElem?_eq_getElem lt]
        exact List.getElem_mem lt
    · rw [if_neg lt] at hc
      exact ord_ind h0 h k c hc
end
/-- the pairs of both orders -/
def prodL (u v : List Int) : List Pr := u.flatMap fun c => v.map fun d => (c, d)
theorem prodL_mem {u v : List Int} {p : Pr} : p ∈ prodL u v ↔ p.1 ∈ u ∧ p.2 ∈ v := by
  unfold prodL
  rw [List.mem_flatMap]
  constructor
  · rintro ⟨c, hc, hp⟩
    obtain ⟨d, hd, rfl⟩ := List.mem_map.mp hp
    exact ⟨hc, hd⟩
  · rintro ⟨h1, h2⟩
    exact ⟨p.1, h1, List.mem_map.mpr ⟨p.2, h2, rfl⟩⟩
theorem prodL_len {u v : List Int} : (prodL u v).length = u.length * v.length := by
  unfold prodL
  induction u with
  | nil => simp
  | cons c u ih =>
    rw [List.flatMap_cons, List.length_append, List.length_map, ih, List.length_cons, Nat.add_mul, Nat.one_mul, Nat.add_comm]
theorem prodL_nodup {u v : List Int} (hu : u.Nodup) (hv : v.Nodup) : (prodL u v).Nodup := by
  unfold prodL
  induction u with
  | nil => exact List.nodup_nil
  | cons c u ih =>
    rw [List.flatMap_cons]
    have hc := List.nodup_cons.mp hu
    refine List.nodup_append.mpr ⟨List.Pairwise.map _ (fun a b h e => h (by injection e)) hv, ih hc.2, ?_⟩
    rintro p hp q hq rfl
    obtain ⟨d, hd, rfl⟩ := List.mem_map.mp hp
    have := (prodL_mem (u := u) (v := v)).mp hq
    exact hc.1 this.1
section
variable {A B : Mach} {GA GB : List Int}
theorem pairs_all {D : List Pr} (h0 : (cls GA 0, cls GB 0) ∈ D) (h1 : ∀ p ∈ D, ∀ z ∈ A.rows.getD p.1.toNat [], (cls GA z, p.2) ∈ D) (h2 : ∀ p ∈ D, ∀ z ∈ B.rows.getD p.2.toNat [], (p.1, cls GB z) ∈ D) :
    ∀ p ∈ prodL (ordAt A GA A.rows.length) (ordAt B GB B.rows.length), p ∈ D := by
  intro p hp
  obtain ⟨p1, p2⟩ := prodL_mem.mp hp
  have hB : ∀ d ∈ ordAt B GB B.rows.length, (cls GA 0, d) ∈ D := ord_ind (S := fun d => (cls GA 0, d) ∈ D) h0 (fun c hc z hz => h2 _ hc z hz) _
  exact ord_ind (S := fun c => (c, p.2) ∈ D) (hB _ p2) (fun c hc z hz => h1 _ hc z hz) _ p.1 p1
theorem pairs_few {D : List Pr} (n : D.Nodup) (h : ∀ p ∈ D, p ∈ prodL (ordAt A GA A.rows.length) (ordAt B GB B.rows.length)) : D.length ≤ (ordAt A GA A.rows.length).length * (ordAt B GB B.rows.length).length := by
  rw [← prodL_len]
  exact n.length_le_of_subset h
theorem pairs_len (gA : Good A) (gB : Good B) (rA : Rep (EqM A) A.rows.length GA) (rB : Rep (EqM B) B.rows.length GB) {D : List Pr} (n : D.Nodup) (h : ∀ p ∈ D, p ∈ prodL (ordAt A GA A.rows.length) (ordAt B GB B.rows.length))
    (h0 : (cls GA 0, cls GB 0) ∈ D) (h1 : ∀ p ∈ D, ∀ z ∈ A.rows.getD p.1.toNat [], (cls GA z, p.2) ∈ D) (h2 : ∀ p ∈ D, ∀ z ∈ B.rows.getD p.2.toNat [], (p.1, cls GB z) ∈ D) :
    D.length = (ordAt A GA A.rows.length).length * (ordAt B GB B.rows.length).length := by
  refine Nat.le_antisymm (pairs_few n h) ?_
  rw [← prodL_len]
  exact (prodL_nodup (ord_ok gA rA _).1 (ord_ok gB rB _).1).length_le_of_subset (pairs_all h0 h1 h2)
end
/-- a ring of states -/
def ringM (n : Nat) : Mach := ⟨1, 2, (List.range n).map fun k : Nat => [((k : Int) + 1) % (n : Int)], (List.range n).map fun k : Nat => if k = 0 then 1 else 0⟩
def rings (n : Nat) : Bool := (List.range n).all (fun s => (ringM n).run 0 (List.replicate s 0) = (s : Int)) &&
  (List.range n).all fun s => (List.range n).all fun t => decide (s = t) || !decide ((ringM n).out ((ringM n).run (s : Int) (List.replicate (n - s) 0)) = (ringM n).out ((ringM n).run (t : Int) (List.replicate (n - s) 0)))
theorem ring_full {n : Nat} (h : rings n = true) (h1 : 1 ≤ n) (h2 : n ≤ 30) : Full (ringM n) := by
  have len : (ringM n).rows.length = n := by
    show ((List.range n).map _).length = n
    rw [List.length_map, List.length_range]
  have zl : ∀ k, Lt 1 (List.replicate k (0 : Int)) := fun k z hz => by
    rw [List.eq_of_mem_replicate hz]
    decide
  unfold rings at h
  rw [Bool.and_eq_true, List.all_eq_true, List.all_eq_true] at h
  refine ⟨⟨(by show (1 : Int) ≤ 1; decide), (by show (1 : Int) ≤ 4; decide), (by show (1 : Int) ≤ 2; decide), (by show (2 : Int) ≤ 6; decide), by rw [len]; exact h1, by rw [len]; exact h2, ?_, fun w hw => ?_, fun w hw z hz => ?_, fun z hz => ?_⟩, fun s hs => ?_, fun s t hs ht sm => ?_⟩
  · rw [len]
    show ((List.range n).map _).length = n
    rw [List.length_map, List.length_range]
  · obtain ⟨k, _, rfl⟩ := List.mem_map.mp hw
    rfl
  · rw [len]
    obtain ⟨k, _, rfl⟩ := List.mem_map.mp hw
    rw [List.mem_singleton.mp hz]
    exact ⟨Int.emod_nonneg _ (by omega), Int.emod_lt_of_pos _ (by omega)⟩
  · obtain ⟨k, _, rfl⟩ := List.mem_map.mp hz
    show 0 ≤ (if k = 0 then (1 : Int) else 0) ∧ (if k = 0 then (1 : Int) else 0) < 2
    split <;> decide
  · have s0 := hs.1
    have s1 := hs.2
    rw [len] at s1
    have := h.1 s.toNat (List.mem_range.mpr (by omega))
    refine ⟨_, zl s.toNat, ?_⟩
    have := of_decide_eq_true this
    rw [this]
    omega
  · have s0 := hs.1
    have s1 := hs.2
    have t0 := ht.1
    have t1 := ht.2
    rw [len] at s1 t1
    have := List.all_eq_true.mp (h.2 s.toNat (List.mem_range.mpr (by omega))) t.toNat (List.mem_range.mpr (by omega))
    rw [Int.toNat_of_nonneg s0, Int.toNat_of_nonneg t0, decide_eq_true (sm _ (zl _))] at this
    have := of_decide_eq_true (by simpa using this : decide (s.toNat = t.toNat) = true)
    omega
theorem full5 : Full (ringM 5) := ring_full (by decide +kernel) (by decide) (by decide)
theorem full6 : Full (ringM 6) := ring_full (by decide +kernel) (by decide) (by decide)
theorem full7 : Full (ringM 7) := ring_full (by decide +kernel) (by decide) (by decide)
end Mz

set_option Elab.async false
set_option linter.all false
set_option maxRecDepth 100000
set_option maxHeartbeats 4000000
/-! a machine under work: its rows in a list, its outputs in another -/
namespace Mz
open PySem PySem.Spec PyProof.Rows L2
theorem same_seq {H H' : Hp} {K : PySem.W.Frag} {a : Addr} {xs : List V} (k : Same H H') (h : SqL K H a xs) : SqL K H' a xs := by
  rcases h with (h | ⟨o, h⟩) | h
  · exact .inl (.inl (k _ _ h))
  · exact .inl (.inr ⟨o, k _ _ h⟩)
  · exact .inr h
theorem at_get {xs : List V} {i : Nat} {v : V} (h : xs[i]? = some v) : atI xs (i : Int) = some v := by
  have := atI_get? (f := fun x : V => x) (ns := xs) (i := (i : Int)) (z := v) (by omega) (by rw [Int.toNat_natCast]; exact h)
  rwa [List.map_id'] at this
/-- a list of tuples of ints -/
def Rws (H : Hp) (D : Addr) (rows : List (List Int)) : Prop := ∃ rs : List Addr, H D = some (.lst (rs.map V.ref)) ∧ rs.length = rows.length ∧ ∀ (i : Nat) (r : Addr) (w : List Int), rs[i]? = some r → rows[i]? = some w → IT H r w
theorem Rws.on {H H2 : Hp} {D : Addr} {rows : List (List Int)} (h : Rws H D rows) (s : Same H H2) : Rws H2 D rows := let ⟨rs, a, b, c⟩ := h; ⟨rs, s _ _ a, b, fun i r w p q => s _ _ (c i r w p q)⟩
theorem Rws.nil {H : Hp} {D : Addr} (h : H D = some (.lst [])) : Rws H D [] := ⟨[], h, rfl, fun i r w p => by simp at p⟩
theorem Rws.push {H : Hp} {D : Addr} {rows : List (List Int)} (h : Rws H D rows) {r : Addr} {w : List Int} (hr : IT H r w) : ∃ acc, H D = some (.lst acc) ∧ acc.length = rows.length ∧ Rws (upd H D (.lst (acc ++ [.ref r]))) D (rows ++ [w]) := by
  obtain ⟨rs, a, b, c⟩ := h
  have nt : ∀ {x : Addr} {u : List Int}, IT H x u → x ≠ D := fun h z => by
    unfold IT at h
    rw [z, a] at h
    cases h
  refine ⟨_, a, by rw [List.length_map, b], rs ++ [r], by rw [upd_same, List.map_append]; rfl, by rw [List.length_append, List.length_append, b]; rfl, fun i x u p q => ?_⟩
  by_cases lt : i < rs.length
  · rw [List.getElem?_append_left lt] at p
    rw [List.getElem?_append_left (by omega)] at q
    have := c i x u p q
    exact (upd_ne (nt this)).trans this
  · rw [List.getElem?_append_right (by omega)] at p
    rw [List.getElem?_append_right (by omega)] at q
    have i0 : i = rs.length := by
      have := (List.getElem?_eq_some_iff.mp p).1
      simp at this
      omega
    subst i0
    rw [Nat.sub_self] at p
    rw [b, Nat.sub_self] at q
    cases p
    cases q
    exact (upd_ne (nt hr)).trans hr
structure Mk2 (H H' : Hp) (l1 l2 : Addr) (rows : List (List Int)) (os : List Int) : Prop where
  same : Same H H'
  f1 : H l1 = none
  f2 : H l2 = none
  ne : l1 ≠ l2
  e1 : ∃ rs : List Addr, H' l1 = some (.lst (rs.map V.ref)) ∧ rs.length = rows.length ∧ ∀ (i : Nat) (r : Addr) (w : List Int), rs[i]? = some r → rows[i]? = some w → IT H' r w
  e2 : H' l2 = some (.lst (os.map V.int))
section
variable {H H' H2 : Hp} {l1 l2 : Addr} {rows : List (List Int)} {os : List Int}
theorem Mk2.on (m : Mk2 H H' l1 l2 rows os) (s : Same H' H2) : Mk2 H H2 l1 l2 rows os :=
  ⟨m.same.trans s, m.f1, m.f2, m.ne, let ⟨rs, a, b, c⟩ := m.e1; ⟨rs, s _ _ a, b, fun i r w p q => s _ _ (c i r w p q)⟩, s _ _ m.e2⟩
theorem Mk2.start (h1 : H l1 = none) (h2 : (upd H l1 (.lst [])) l2 = none) : Mk2 H (upd (upd H l1 (.lst [])) l2 (.lst [])) l1 l2 [] [] := by
  have n : l1 ≠ l2 := fun z => by
    rw [← z, upd_same] at h2
    cases h2
  have s1 := same_upd (o := .lst []) (Same.refl H) h1
  refine ⟨same_upd s1 h2, h1, s1.free h2, n, ⟨[], ?_, rfl, fun i r w p => by simp at p⟩, upd_same⟩
  rw [upd_ne n]
  exact upd_same
theorem Mk2.row (m : Mk2 H H' l1 l2 rows os) {r : Addr} {w : List Int} (hr : IT H' r w) : ∃ acc, H' l1 = some (.lst acc) ∧ acc.length = rows.length ∧ Mk2 H (upd H' l1 (.lst (acc ++ [.ref r]))) l1 l2 (rows ++ [w]) os := by
  obtain ⟨rs, a, b, c⟩ := m.e1
  have nt : ∀ {x : Addr} {u : List Int}, IT H' x u → x ≠ l1 := fun h z => by
    unfold IT at h
    rw [z, a] at h
    cases h
  refine ⟨_, a, by rw [List.length_map, b], ⟨same_set m.same m.f1, m.f1, m.f2, m.ne, ⟨rs ++ [r], ?_, by rw [List.length_append, List.length_append, b]; rfl, fun i x u p q => ?_⟩, by rw [upd_ne m.ne.symm]; exact m.e2⟩⟩
  · rw [upd_same, List.map_append]
    rfl
  · by_cases lt : i < rs.length
    · rw [List.getElem?_append_left lt] at p
      rw [List.getElem?_append_left (by omega)] at q
      have := c i x u p q
      exact (upd_ne (nt this)).trans this
    · rw [List.getElem?_append_right (by omega)] at p
      rw [List.getElem?_append_right (by omega)] at q
      have i0 : i = rs.length := by
        have := (List.getElem?_eq_some_iff.mp p).1
        simp at this
        omega
      subst i0
      rw [Nat.sub_self] at p
      rw [b, Nat.sub_self] at q
      cases p
      cases q
      exact (upd_ne (nt hr)).trans hr
theorem Mk2.out (m : Mk2 H H' l1 l2 rows os) (z : Int) : Mk2 H (upd H' l2 (.lst (os.map V.int ++ [.int z]))) l1 l2 rows (os ++ [z]) := by
  obtain ⟨rs, a, b, c⟩ := m.e1
  have nt : ∀ {x : Addr} {u : List Int}, IT H' x u → x ≠ l2 := fun h z => by
    unfold IT at h
    rw [z, m.e2] at h
    cases h
  refine ⟨same_set m.same m.f2, m.f1, m.f2, m.ne, ⟨rs, by rw [upd_ne m.ne]; exact a, b, fun i x u p q => ?_⟩, ?_⟩
  · have := c i x u p q
    exact (upd_ne (nt this)).trans this
  · rw [upd_same, List.map_append]
    rfl
theorem Mk2.done (m : Mk2 H H' l1 l2 rows os) {ls o : Int} : ∃ rs : List Addr, H' l1 = some (.lst (rs.map V.ref)) ∧ ∀ mv, H' mv = none → ∀ ou, (upd H' mv (.tup (rs.map V.ref))) ou = none → ∀ p, (upd (upd H' mv (.tup (rs.map V.ref))) ou (.tup (os.map V.int))) p = none →
    Same H (upd (upd (upd H' mv (.tup (rs.map V.ref))) ou (.tup (os.map V.int))) p (.tup [.int ls, .int o, .ref mv, .ref ou])) ∧ H p = none ∧ MA (upd (upd (upd H' mv (.tup (rs.map V.ref))) ou (.tup (os.map V.int))) p (.tup [.int ls, .int o, .ref mv, .ref ou])) p ⟨ls, o, rows, os⟩ := by
  obtain ⟨rs, a, b, c⟩ := m.e1
  refine ⟨rs, a, fun mv hmv ou hou p hp => ?_⟩
  have s4 := same_upd (o := .tup (rs.map V.ref)) (Same.refl H') hmv
  have s5 := same_upd (o := .tup (os.map V.int)) s4 hou
  have s6 := same_upd (o := .tup [.int ls, .int o, .ref mv, .ref ou]) s5 hp
  refine ⟨m.same.trans s6, (m.same.trans s5).free hp, mv, ou, rs, ?_⟩
  have mo : ou ≠ mv := fun z => by
    rw [z, upd_same] at hou
    cases hou
  have m1 : mv ≠ p := fun z => by
    rw [← z, upd_ne mo.symm, upd_same] at hp
    cases hp
  have m2 : ou ≠ p := fun z => by
    rw [← z, upd_same] at hp
    cases hp
  exact ⟨upd_same, by rw [upd_ne m1, upd_ne mo.symm, upd_same], by show upd _ p _ ou = _; rw [upd_ne m2, upd_same], b, fun i r w a b => s6 _ _ (c i r w a b)⟩
end
end Mz

set_option Elab.async false
set_option linter.all false
set_option maxRecDepth 100000
set_option maxHeartbeats 4000000
/-! pairs of states that are met from a pair, in a list of tuples -/
namespace Mz
open PySem PySem.Spec PyProof.Rows L2
theorem ifDT {b : Bool} {p q : Prop} (e : b = true) (h : p) : if b = true then p else q := by rw [if_pos e]; exact h
theorem ifDF {b : Bool} {p q : Prop} (e : b = false) (h : q) : if b = true then p else q := by rw [if_neg (by rw [e]; decide)]; exact h
theorem kit_tuples {K : PySem.W.Frag} : PySem.W.kitOne K (.type "tuple") (.type "tuple") = some true := if_pos (beq_self_eq_true _)
theorem dec_nat (x y : Nat) : decide (V.int (x : Int) = V.int (y : Int)) = decide (x = y) := by
  rw [Bool.eq_iff_iff, decide_eq_true_iff, decide_eq_true_iff]
  constructor
  · intro h
    injection h with h
    omega
  · rintro rfl
    rfl
theorem PrL.nil {H : Hp} : PrL H [] [] := ⟨rfl, fun i x p h => by simp at h⟩
theorem PrL.one {H : Hp} {t : Addr} {p : Pr} (h : H t = some (.tup [.int p.1, .int p.2])) : PrL H [t] [p] := ⟨rfl, fun i x q h1 h2 => by
  have i0 : i = 0 := by
    have := (List.getElem?_eq_some_iff.mp h1).1
    simp at this
    exact this
  subst i0
  cases h1
  cases h2
  exact h⟩
theorem PrL.push {H : Hp} {ts : List Addr} {D : List Pr} {pa t : Addr} {p : Pr} (pr : PrL H ts D) (e1 : H pa = some (.lst (ts.map V.ref))) (et : H t = some (.tup [.int p.1, .int p.2])) : PrL (upd H pa (.lst (ts.map V.ref ++ [.ref t]))) (ts ++ [t]) (D ++ [p]) := by
  have keep : ∀ {x u}, H x = some (HO.tup u) → (upd H pa (.lst (ts.map V.ref ++ [.ref t]))) x = some (.tup u) := fun {x u} h => by
    rw [upd_ne fun z => by
      rw [z, e1] at h
      cases h]
    exact h
  refine ⟨by rw [List.length_append, List.length_append, pr.1]; rfl, fun k x q h1 h2 => ?_⟩
  rcases get_app h2 with y | ⟨y1, y2⟩
  · rcases get_app h1 with u | ⟨u1, u2⟩
    · exact keep (pr.2 k x q u y)
    · have := (List.getElem?_eq_some_iff.mp y).1
      rw [← pr.1] at this
      omega
  · rcases get_app h1 with u | ⟨u1, u2⟩
    · have := (List.getElem?_eq_some_iff.mp u).1
      rw [pr.1] at this
      omega
    · rw [u2, y2]
      exact keep et
/-- the pairs met from p0, the ones below i done -/
structure MetG (A B : Mach) (p0 : Pr) (D : List Pr) (i : Nat) : Prop where
  st : D[0]? = some p0
  nd : D.Nodup
  inp : ∀ p ∈ D, A.St p.1 ∧ B.St p.2
  rch : ∀ p ∈ D, ∃ v, Lt A.ls v ∧ p = (A.run p0.1 v, B.run p0.2 v)
  done : ∀ j p, j < i → D[j]? = some p → A.out p.1 = B.out p.2 ∧ ∀ a : Nat, (a : Int) < A.ls → (A.next p.1 a, B.next p.2 a) ∈ D
section
variable {A B : Mach} {p0 : Pr} {D : List Pr} {i : Nat}
theorem pairs_in {D : List Pr} (nd : D.Nodup) (inp : ∀ p ∈ D, A.St p.1 ∧ B.St p.2) : D.length ≤ A.rows.length * B.rows.length := by
  have h := nodup_few (A.rows.length * B.rows.length) (D.map fun p => p.1.toNat * B.rows.length + p.2.toNat) ?_ ?_
  · rw [List.length_map] at h
    exact h
  · refine List.pairwise_map.mpr (List.Pairwise.imp_of_mem (fun {p q} hp hq ne e => ne ?_) nd)
    obtain ⟨⟨a1, a2⟩, b1, b2⟩ := inp p hp
    obtain ⟨⟨c1, c2⟩, d1, d2⟩ := inp q hq
    have e1 : p.2.toNat = q.2.toNat := by
      have := congrArg (· % B.rows.length) e
      simp only [Nat.mul_add_mod_self_right, Nat.mul_comm _ B.rows.length, Nat.mul_add_mod] at this
      rw [Nat.mod_eq_of_lt (by omega), Nat.mod_eq_of_lt (by omega)] at this
      exact this
    have e2 : p.1.toNat = q.1.toNat := by
      rw [e1] at e
      exact Nat.eq_of_mul_eq_mul_right (by omega) (Nat.add_right_cancel e)
    exact Prod.ext (by omega) (by omega)
  · intro x hx
    obtain ⟨p, hp, rfl⟩ := List.mem_map.mp hx
    obtain ⟨⟨a1, a2⟩, b1, b2⟩ := inp p hp
    have h1 : p.1.toNat + 1 ≤ A.rows.length := by omega
    have h2 : p.2.toNat < B.rows.length := by omega
    calc p.1.toNat * B.rows.length + p.2.toNat < p.1.toNat * B.rows.length + B.rows.length := by omega
      _ = (p.1.toNat + 1) * B.rows.length := by rw [Nat.succ_mul]
      _ ≤ _ := Nat.mul_le_mul_right _ h1
theorem MetG.few (m : MetG A B p0 D i) : D.length ≤ A.rows.length * B.rows.length := pairs_in m.nd m.inp
theorem MetG.start (h1 : A.St p0.1) (h2 : B.St p0.2) : MetG A B p0 [p0] 0 :=
  ⟨rfl, by simp, fun p hp => by rw [List.mem_singleton.mp hp]; exact ⟨h1, h2⟩, fun p hp => ⟨[], fun z hz => absurd hz (by simp), by rw [List.mem_singleton.mp hp]; rfl⟩, fun j p h => absurd h (Nat.not_lt_zero _)⟩
theorem MetG.sim (m : MetG A B p0 D i) (h : D.length ≤ i) (gA : Good A) : Sim A B p0.1 p0.2 := by
  have cl : ∀ p ∈ D, A.out p.1 = B.out p.2 ∧ ∀ a : Nat, (a : Int) < A.ls → (A.next p.1 a, B.next p.2 a) ∈ D := fun p hp => by
    obtain ⟨j, hj⟩ := List.getElem?_of_mem hp
    have jl := (List.getElem?_eq_some_iff.mp hj).1
    exact m.done j p (by omega) hj
  have run : ∀ v, Lt A.ls v → (A.run p0.1 v, B.run p0.2 v) ∈ D := by
    intro v
    induction v using snoc_ind with
    | h0 => exact fun _ => List.mem_of_getElem? m.st
    | hs v a ih =>
      intro hv
      obtain ⟨v1, a0, a1⟩ := lt_snoc.mp hv
      rw [run_snoc, run_snoc]
      have := (cl _ (ih v1)).2 a.toNat (by omega)
      rw [show ((a.toNat : Nat) : Int) = a by omega] at this
      exact this
  exact fun v hv => (cl _ (run v hv)).1
theorem MetG.apart (m : MetG A B p0 D i) {p : Pr} (hp : p ∈ D) (h : A.out p.1 ≠ B.out p.2) : ¬ Sim A B p0.1 p0.2 := fun s => by
  obtain ⟨v, hv, e⟩ := m.rch p hp
  rw [e] at h
  exact h (s v hv)
theorem MetG.push (m : MetG A B p0 D i) (gA : Good A) (gB : Good B) (ls : A.ls = B.ls) {p : Pr} (hp : p ∈ D) {z : Int} (h0 : 0 ≤ z) (h1 : z < A.ls) (n : (A.next p.1 z, B.next p.2 z) ∉ D) (hi : i ≤ D.length) : MetG A B p0 (D ++ [(A.next p.1 z, B.next p.2 z)]) i := by
  obtain ⟨p1, p2⟩ := m.inp p hp
  refine ⟨get_app1 m.st, ?_, fun q hq => ?_, fun q hq => ?_, fun k q hk hq => ?_⟩
  · refine List.nodup_append.mpr ⟨m.nd, by simp, fun x hx y hy e => ?_⟩
    rw [List.mem_singleton.mp hy] at e
    rw [e] at hx
    exact n hx
  · rcases List.mem_append.mp hq with h | h
    · exact m.inp q h
    · rw [List.mem_singleton.mp h]
      exact ⟨(gA.step p1 h0 h1).1, (gB.step p2 h0 (by rw [← ls]; exact h1)).1⟩
  · rcases List.mem_append.mp hq with h | h
    · exact m.rch q h
    · rw [List.mem_singleton.mp h]
      obtain ⟨v, hv, e⟩ := m.rch p hp
      refine ⟨v ++ [z], lt_snoc.mpr ⟨hv, h0, h1⟩, ?_⟩
      rw [run_snoc, run_snoc, e]
  · rw [List.getElem?_append_left (by omega)] at hq
    obtain ⟨d1, d2⟩ := m.done k q hk hq
    exact ⟨d1, fun x hx => List.mem_append.mpr (.inl (d2 x hx))⟩
theorem MetG.next (m : MetG A B p0 D i) {p : Pr} (hp : D[i]? = some p) (h : A.out p.1 = B.out p.2) (ins : ∀ a : Nat, (a : Int) < A.ls → (A.next p.1 a, B.next p.2 a) ∈ D) : MetG A B p0 D (i + 1) := by
  refine ⟨m.st, m.nd, m.inp, m.rch, fun j q hj hq => ?_⟩
  by_cases ej : j = i
  · subst ej
    rw [hp] at hq
    cases hq
    exact ⟨h, ins⟩
  · exact m.done j q (by omega) hq
end
end Mz

set_option Elab.async false
set_option linter.all false
set_option maxRecDepth 100000
set_option maxHeartbeats 4000000
/-! ranks and trees -/
namespace Mz
open PySem PySem.Spec PyProof.Rows L2
theorem inVI (c : Int) (ns : List Int) : inV (.int c) (ns.map V.int) = decide (c ∈ ns) := by
  unfold inV
  rw [List.any_map]
  induction ns with
  | nil => simp
  | cons n ns ih =>
    rw [List.any_cons, ih]
    have e : ((fun y => eqV y (V.int c)) ∘ V.int) n = decide (n = c) := by
      show eqV (V.int n) (V.int c) = _
      simp only [eqV]
      by_cases h : n = c <;> simp [h]
    rw [e]
    by_cases h : n = c
    · simp [h]
    · have h2 : ¬ c = n := fun z => h z.symm
      simp [h, h2]
theorem flatI (ns : List Int) : (ns.map V.int).all flatV = true := by
  rw [List.all_eq_true]
  intro x hx
  obtain ⟨n, _, rfl⟩ := List.mem_map.mp hx
  rfl
/-- what is lacking behind the symbols -/
def lackG (rs : List Int) : List Int → Int → Option Int
  | [], n => some n
  | s :: t, n => if n = 0 then none else lackG rs t (n + (rs.getD s.toNat 0 - 1))
/-- a tree over the ranks -/
def treeB (rs t : List Int) : Bool := decide (t.length ≤ 400) && belowB t rs.length && (lackG rs t 1 == some 0)
/-- ranks -/
def ranksB (rs : List Int) : Bool := decide (1 ≤ rs.length) && decide (rs.length ≤ 5) && belowB rs 3 && decide (0 ∈ rs)
theorem lack_drop {rs t : List Int} {i : Nat} {s n : Int} (h : t[i]? = some s) (e : lackG rs t 1 = lackG rs (t.drop i) n) : (n = 0 → lackG rs t 1 = none) ∧ (n ≠ 0 → lackG rs t 1 = lackG rs (t.drop (i + 1)) (n + (rs.getD s.toNat 0 - 1))) := by
  have hd : t.drop i = s :: t.drop (i + 1) := by
    obtain ⟨lt, e⟩ := List.getElem?_eq_some_iff.mp h
    rw [List.drop_eq_getElem_cons lt, e]
  rw [hd] at e
  constructor
  · intro z
    rw [e, lackG, if_pos z]
  · intro z
    rw [e, lackG, if_neg z]
theorem below_at {ns : List Int} {L z : Int} {i : Nat} (h : belowB ns L = true) (e : ns[i]? = some z) : 0 ≤ z ∧ z < L := below_iff.mp h z (List.mem_of_getElem? e)
theorem getD_at {rs : List Int} {z : Int} (h0 : 0 ≤ z) (h1 : z < rs.length) : rs[z.toNat]? = some (rs.getD z.toNat 0) := by
  have lt : z.toNat < rs.length := by omega
  rw [List.getD_eq_getElem?_getD, List.getElem?_eq_getElem lt]
  rfl
theorem dec_intB (x y : Int) : decide (V.int x = V.int y) = (some x == some y) := by
  by_cases h : x = y <;> simp [h]
theorem Kp.seqT {Pt : Addr} {H H' : Hp} {K : PySem.W.Frag} {a : Addr} {xs : List V} (t : GxR.TabG H Pt) (k : Kp Pt H H') (h : SqT K H a xs) : SqT K H' a xs := by
  rcases h with (h | ⟨o, h⟩) | h
  · exact .inl (.inl (k.keep _ _ (tab_ne t h (fun ps z => by cases z)) h))
  · exact .inl (.inr ⟨o, k.keep _ _ (tab_ne t h (fun ps z => by cases z)) h⟩)
  · exact .inr h
theorem ixN_inR {n : Nat} {k : Int} (h0 : 0 ≤ k) (h1 : k < n) : ixN n k = some k.toNat := by
  unfold ixN
  rw [if_pos h0, if_pos h1]
theorem mem_set_self {l : List Int} {j : Nat} {x : Int} (h : j < l.length) : x ∈ l.set j x := List.mem_iff_getElem?.mpr ⟨j, List.getElem?_set_self h⟩
theorem mem_set_or {l : List Int} {j : Nat} {x z : Int} (h : z ∈ l.set j x) : z ∈ l ∨ z = x := List.mem_or_eq_of_mem_set h
theorem same_seqT {H H' : Hp} {K : PySem.W.Frag} {a : Addr} {xs : List V} (k : Same H H') (h : SqT K H a xs) : SqT K H' a xs := by
  rcases h with (h | ⟨o, h⟩) | h
  · exact .inl (.inl (k _ _ h))
  · exact .inl (.inr ⟨o, k _ _ h⟩)
  · exact .inr h
theorem dec_intD (x y : Int) : decide (V.int x = V.int y) = decide (x = y) := by simp
theorem seqIxR {n : Nat} {i : Int} (h0 : 0 ≤ i) (h1 : i < n) : seqIndex? i n = some i.toNat := by
  have e := ixN_inR h0 h1
  exact (ixN_seq e).1
theorem ofInts : ∀ {xs : List V}, (∀ x ∈ xs, ∃ z : Int, x = .int z) → ∃ us : List Int, xs = us.map V.int ∧ us.length = xs.length
  | [], _ => ⟨[], rfl, rfl⟩
  | x :: xs, h => by
    obtain ⟨z, rfl⟩ := h x List.mem_cons_self
    obtain ⟨us, e, l⟩ := ofInts (xs := xs) fun y hy => h y (List.mem_cons_of_mem _ hy)
    exact ⟨z :: us, by rw [e]; rfl, by show us.length + 1 = xs.length + 1; omega⟩
theorem intsMem {ns : List Int} {x : V} (h : x ∈ ns.map V.int) : ∃ z : Int, x = .int z := by
  obtain ⟨n, _, e⟩ := List.mem_map.mp h
  exact ⟨n, e.symm⟩
theorem cutMem {xs : List V} {lo hi : Option Int} {x : V} (h : x ∈ cutV xs lo hi) : x ∈ xs := by
  unfold cutV at h
  exact List.mem_of_mem_drop (List.mem_of_mem_take h)
theorem sIx_at {n d : Nat} {i : Int} (h0 : 0 ≤ i) (h1 : i ≤ n) : HT.sIx n d (some i) = i.toNat := by
  have e : i = ((i.toNat : Nat) : Int) := by omega
  rw [e, HT.sIx_nat]
  omega
theorem cut_take {xs : List V} {i : Int} (h0 : 0 ≤ i) (h1 : i ≤ xs.length) : cutV xs none (some i) = xs.take i.toNat := by
  unfold cutV
  rw [HT.sIx_none, sIx_at h0 h1, List.drop_zero, Nat.sub_zero]
theorem cut_drop {xs : List V} {i : Int} (h0 : 0 ≤ i) (h1 : i ≤ xs.length) : cutV xs (some i) none = xs.drop i.toNat := by
  unfold cutV
  rw [HT.sIx_none, sIx_at h0 h1, List.take_of_length_le (by rw [List.length_drop]; exact Nat.le_refl _)]
theorem cut_mid {xs : List V} {i j : Int} (h0 : 0 ≤ i) (h1 : i ≤ j) (h2 : j ≤ xs.length) : cutV xs (some i) (some j) = (xs.drop i.toNat).take (j.toNat - i.toNat) := by
  unfold cutV
  rw [sIx_at h0 (by omega), sIx_at (by omega) h2]
end Mz

set_option Elab.async false
set_option linter.all false
set_option maxRecDepth 100000
set_option maxHeartbeats 4000000
namespace K42
open PySem PySem.Spec PyProof.Rows L2 Mz
/-- a claim moved on as far as the moves go -/
def adv (L : Int) (mv : List Int) : Int → List Int → PK
  | s, [] => (s, [])
  | s, a :: r => if s * L + a < (mv.length : Int) then adv L mv (mv.getD (s * L + a).toNat 0) r else (s, a :: r)
def put1 (acc : List (PK × Int)) (k : PK) (o : Int) : Option (List (PK × Int)) := match findK acc k with
  | none => some (acc ++ [(k, o)])
  | some v => if v = o then some acc else none
def moveOn (L : Int) (mv : List Int) (cl : List (PK × Int)) : Option (List (PK × Int)) := cl.foldl (fun acc kv => acc.bind fun a => put1 a (adv L mv kv.1.1 kv.1.2) kv.2) (some [])
/-- claims of a few states -/
def OkC (L : Int) (cl : List (PK × Int)) : Prop := cl.length ≤ 1000 ∧ ∀ kv ∈ cl, 0 ≤ kv.1.1 ∧ kv.1.1 ≤ 100 ∧ Lt L kv.1.2 ∧ kv.1.2.length ≤ 1000
def OkM (mv : List Int) : Prop := mv.length ≤ 1000 ∧ ∀ z ∈ mv, 0 ≤ z ∧ z ≤ 100
theorem put1_len {acc a : List (PK × Int)} {k : PK} {o : Int} (h : put1 acc k o = some a) : a.length ≤ acc.length + 1 := by
  unfold put1 at h
  split at h
  · cases h
    rw [List.length_append]
    exact Nat.le_refl _
  · split at h
    · cases h
      omega
    · cases h
theorem move_snoc {L : Int} {mv : List Int} {cl : List (PK × Int)} {kv : PK × Int} : moveOn L mv (cl ++ [kv]) = (moveOn L mv cl).bind fun a => put1 a (adv L mv kv.1.1 kv.1.2) kv.2 := by
  unfold moveOn
  rw [List.foldl_append]
  rfl
theorem move_none {L : Int} {mv : List Int} {cl ds : List (PK × Int)} (h : moveOn L mv cl = none) : moveOn L mv (cl ++ ds) = none := by
  unfold moveOn at *
  rw [List.foldl_append, h]
  clear h
  induction ds with
  | nil => rfl
  | cons d ds ih =>
    rw [List.foldl_cons]
    exact ih
theorem move_len {L : Int} {mv : List Int} {cl acc : List (PK × Int)} (h : moveOn L mv cl = some acc) : acc.length ≤ cl.length := by
  have gen : ∀ (cl acc0 acc : List (PK × Int)), cl.foldl (fun acc kv => acc.bind fun a => put1 a (adv L mv kv.1.1 kv.1.2) kv.2) (some acc0) = some acc → acc.length ≤ acc0.length + cl.length := by
    intro cl
    induction cl with
    | nil =>
      intro acc0 acc h
      cases h
      exact Nat.le_refl _
    | cons kv cl ih =>
      intro acc0 acc h
      rw [List.foldl_cons] at h
      cases e : put1 acc0 (adv L mv kv.1.1 kv.1.2) kv.2 with
      | none =>
        have h : cl.foldl (fun acc kv => acc.bind fun a => put1 a (adv L mv kv.1.1 kv.1.2) kv.2) (put1 acc0 (adv L mv kv.1.1 kv.1.2) kv.2) = some acc := h
        rw [e] at h
        have z := move_none (L := L) (mv := mv) (cl := []) (ds := cl)
        have : ∀ ds : List (PK × Int), ds.foldl (fun acc kv => acc.bind fun a => put1 a (adv L mv kv.1.1 kv.1.2) kv.2) none = none := fun ds => by
          induction ds with
          | nil => rfl
          | cons d ds ih => exact ih
        rw [this] at h
        cases h
      | some a =>
        have h : cl.foldl (fun acc kv => acc.bind fun a => put1 a (adv L mv kv.1.1 kv.1.2) kv.2) (put1 acc0 (adv L mv kv.1.1 kv.1.2) kv.2) = some acc := h
        rw [e] at h
        have := ih a acc h
        have := put1_len e
        rw [List.length_cons]
        omega
  have := gen cl [] acc h
  simpa using this
theorem unlock_same {H H3 : Hp} {d : Addr} {u : HO} {o : Obj} (hd : H d = some u) (s : Same (upd H d (.frz o u)) H3) : Same H (upd H3 d u) := fun b v e => by
  by_cases bd : b = d
  · subst bd
    rw [upd_same, ← hd]
    exact e
  · rw [upd_ne bd]
    exact s _ _ ((upd_ne bd).trans e)
def spMoveOn (P : Program) (w : World) : Sp := fun vs H Q _ => ∃ (L : Int) (a d : Addr) (mv : List Int) (cl : List (PK × Int)), vs = [.int L, .ref a, .ref d] ∧ IT H a mv ∧ NestD P w H d cl ∧ 1 ≤ L ∧ L ≤ 4 ∧ OkM mv ∧ OkC L cl ∧
  (moveOn L mv cl = none → ∀ H', Same H H' → Q .non H') ∧ (∀ k, moveOn L mv cl = some k → ∀ (H' : Hp) (q : Addr), Same H H' → NestD P w H' q k → Q (.ref q) H')
section
variable {P : Program} {w : World} {K : PySem.W.Frag} {mg : Str → Option Value} {base : Heap} {A : Ads}
theorem ok_moveon (T : Txt K mg A) : FnOk P w K mg base CX0 1 A.a_move_on A.d_move_on ["letters", "moves", "claims"] (spMoveOn P w) := by
  refine T.F_move_on.ok sc_move_on (fun vs H Q E h => ?_) (fun cdv Ar outer s H vs Q E hr h => ?_)
  · obtain ⟨_, _, _, _, _, rfl, _⟩ := h
    rfl
  · refine ⟨_, (pss_cons (ps_set (i := 3) sc_move_on.nd rfl (Or.inl rfl) (pe_newN (P := P) (w := w) rfl rfl))
      (pss_cons (ps_lock (ps_for PassesOwn.never rfl (pi_itmN (P := P) (w := w) rfl rfl (pv 2)) (pg_tup rfl (pgs_cons (pg_tup rfl (pgs_cons (pg_name (i := 4) sc_move_on.nd rfl (Or.inl rfl)) (pgs_cons (pg_name (i := 5) sc_move_on.nd rfl (Or.inl rfl)) pgs_nil))) (pgs_cons (pg_name (i := 6) sc_move_on.nd rfl (Or.inl rfl)) pgs_nil)))
        (pss_cons (ps_set (i := 7) sc_move_on.nd rfl (Or.inl rfl) pe_int)
          (pss_cons (ps_set (i := 8) sc_move_on.nd rfl (Or.inl rfl) (pv 4))
          (pss_cons (ps_while PassesOwn.never (PW.pt (pw_and (pt_cmpR op_lt (pv 7) (pe_callB call_len_seq (by rfl) T.n_len PySem.boot_len (pa_cons (pv 5) pa_nil)) (nomark _)) (pw_and1 (pt_cmpR op_lt (pe_op op_add (pe_op op_mul (pv 8) (pv 0)) (pe_ix (r := rIx K) ix_seq (pv 5) (pv 7) (fun _ _ => rfl))) (pe_callB call_len_seq (by rfl) T.n_len PySem.boot_len (pa_cons (pv 1) pa_nil)) (nomark _))))) (pss_cons (ps_set (i := 8) sc_move_on.nd rfl (Or.inl rfl) (pe_ix (r := rIx K) ix_seq (pv 1) (pe_op op_add (pe_op op_mul (pv 8) (pv 0)) (pe_ix (r := rIx K) ix_seq (pv 5) (pv 7) (fun _ _ => rfl))) (fun _ _ => rfl)))
              (pss_one (ps_aug (i := 7) sc_move_on.nd rfl (Or.inl rfl) pe_int ip_add))))
          (pss_one (ps_if (pt_cmpR op_ne (pe_setN (P := P) (w := w) rfl rfl (hu10 hr) (pv 3) (pe_tup (pa_cons (pv 8) (pa_cons (pe_slice sl_tupA (pv 5) (po_some (pv 7)) po_none) pa_nil))) (pv 6) ⟨rfl, rfl, rfl, rfl⟩) (pv 6) (nomark _)) (pss_one (ps_ret pe_non)) pss_nil)))))))
      (pss_one (ps_ret (pv 3))))), ?_⟩
    obtain ⟨L, a, d, mv, cl, rfl, ha, hd, L1, L4, okM, okC, f0, f1⟩ := h
    obtain ⟨xs, ed, ks, pr⟩ := id hd.ex
    have lx := Paired.length pr
    refine .inr fun D hD => ?_
    have Dd : D ≠ d := fun z => by
      rw [z, ed] at hD
      cases hD
    refine ⟨d, _, (upd_ne (Ne.symm Dd)).trans ed, trivial, fun od => ?_⟩
    have sB : Same (upd H d (.frz od (NestO P w d xs))) (upd (upd H D (NestO P w D [])) d (.frz od (NestO P w d xs))) := fun b o e => by
      by_cases z : b = d
      · rw [z] at e ⊢
        rw [upd_same] at e ⊢
        exact e
      · rw [upd_ne z] at e ⊢
        rw [upd_ne fun y => by rw [y, hD] at e; cases e]
        exact e
    have nD0 : NestD P w (upd (upd H D (NestO P w D [])) d (.frz od (NestO P w d xs))) D [] := ⟨[], by rw [upd_ne Dd, upd_same], fun x hx => absurd hx (by simp), .nil⟩
    have eS0 : (upd (upd H D (NestO P w D [])) d (.frz od (NestO P w d xs))) d = some (.frz od (NestO P w d xs)) := upd_same
    generalize upd (upd H D (NestO P w D [])) d (.frz od (NestO P w d xs)) = H0 at *
    have na : a ≠ d := fun z => by
      have ha : H a = some (.tup (mv.map V.int)) := ha
      rw [z, ed] at ha
      cases ha
    have haF : (upd H d (.frz od (NestO P w d xs))) a = some (.tup (mv.map V.int)) := by rw [upd_ne na]; exact ha
    have hDF : (upd H d (.frz od (NestO P w d xs))) D = none := by rw [upd_ne Dd]; exact hD
    have eSF : (upd H d (.frz od (NestO P w d xs))) d = some (.frz od (NestO P w d xs)) := upd_same
    have kF : ∀ x ∈ xs, KeyAt (upd H d (.frz od (NestO P w d xs))) x.2.1 x.1 := fun x hx => upd_key (P := P) (w := w) ed (fun xs z => by cases z) (ks x hx)
    have vals : ∀ e ∈ xs, ∃ v t, e.2.2 = Value.int v t := fun e he => by
      obtain ⟨j, hj, e2⟩ := List.getElem_of_mem he
      have hc : cl[j]? = some cl[j] := List.getElem?_eq_getElem (by omega)
      obtain ⟨b, hb, h1, t, h2⟩ := DT.pget2 pr hc
      rw [List.getElem?_eq_getElem hj, e2] at hb
      cases hb
      exact ⟨_, t, h2⟩
    refine ⟨_, rfl, d, od, xs, rfl, eS0, vals, ?_⟩
    refine for_it walk_itemsN (fun i σ H' => ∃ (v4 v5 v6 v7 v8 : Option V) (acc : List (PK × Int)), σ = [some (.int L), some (.ref a), some (.ref d), some (.ref D), v4, v5, v6, v7, v8] ∧ moveOn L mv (cl.take i) = some acc ∧ NestD P w H' D acc ∧ Same (upd H d (.frz od (NestO P w d xs))) H') ⟨none, none, none, none, none, [], rfl, rfl, nD0, sB⟩ (fun i σ H' _ ⟨_, _, _, _, _, _, _, _, _, z⟩ => z _ _ eSF) ?_ ?_
    · rintro i x σ H3 H3x hi ⟨v4, v5, v6, v7, v8, acc, rfl, em, nd, s3⟩ ⟨Tt, e, v, he, ⟨t, ev⟩, rfl, hTt, rfl⟩
      have il : i < cl.length := by omega
      have ec := List.getElem?_eq_getElem il
      generalize cl[i] = kv at ec
      obtain ⟨e', he', k1, t', k2⟩ := DT.pget2 pr ec
      rw [he] at he'
      cases he'
      have ev2 : v = kv.2 := by
        rw [k2] at ev
        cases ev
        rfl
      obtain ⟨⟨s0, rest⟩, o0⟩ := kv
      have k1 : (s0, rest) = e.1 := k1
      have ev2 : v = o0 := ev2
      subst ev2
      have hk := okC.2 _ (List.mem_of_getElem? ec)
      obtain ⟨h1, h2, h3, h4⟩ := hk
      have h1 : 0 ≤ s0 := h1
      have h2 : s0 ≤ 100 := h2
      have h3 : Lt L rest := h3
      have h4 : rest.length ≤ 1000 := h4
      obtain ⟨b, eq0, eb0⟩ := kF e (List.mem_of_getElem? he)
      rw [← k1] at eq0 eb0
      have s34 := same_upd (o := .tup [.ref e.2.1, .int v]) (Same.refl H3) hTt
      have eT : (upd H3 Tt (.tup [.ref e.2.1, .int v])) Tt = some (.tup [.ref e.2.1, .int v]) := upd_same
      have nd4 := nd.same s34
      generalize upd H3 Tt (.tup [.ref e.2.1, .int v]) = H4 at *
      have s4 := s3.trans s34
      refine ⟨Tt, _, rfl, SqT.of eT, rfl, _, _, rfl, ⟨e.2.1, _, rfl, SqT.of (s4 _ _ eq0), rfl, _, _, rfl, _, _, rfl, rfl, _, _, rfl, rfl, ?_⟩⟩
      refine ⟨_, rfl, ?_⟩
      refine ⟨fun m σ H' => ∃ (pl : Nat) (at' : Int), m = rest.length - pl ∧ pl ≤ rest.length ∧ H' = H4 ∧ σ = [some (.int L), some (.ref a), some (.ref d), some (.ref D), some (.int s0), some (.ref b), some (.int v), some (.int (pl : Int)), some (.int at')] ∧ 0 ≤ at' ∧ at' ≤ 100 ∧ adv L mv s0 rest = adv L mv at' (rest.drop pl), ⟨_, 0, s0, rfl, Nat.zero_le _, rfl, rfl, h1, h2, rfl⟩, ?_⟩
      rintro m σ H5 ⟨pl, at', rfl, hpl, rfl, rfl, a0, a1, ad⟩
      have eb4 := s4 _ _ eb0
      have ha4 := s4 _ _ haF
      have lr : (rest.map V.int).length = rest.length := List.length_map ..
      have lm : (mv.map V.int).length = mv.length := List.length_map ..
      refine ⟨_, rfl, _, rfl, b, _, rfl, .inr (SqT.of eb4), ?_⟩
      rw [lr]
      refine ⟨_, _, rfl, rfl, _, rfl, ite2 (fun c1 => ?inn) (fun c1 => ?out)⟩
      case' inn =>
        have c1 : pl < rest.length := by simpa using c1
        have er := List.getElem?_eq_getElem c1
        generalize hz : rest[pl] = z at er
        have zl := h3 z (List.mem_of_getElem? er)
        have az : atI (rest.map V.int) (pl : Int) = some (.int z) := atI_nat (getV er)
        have dr : rest.drop pl = z :: rest.drop (pl + 1) := by
          rw [List.drop_eq_getElem_cons c1, hz]
        refine ⟨_, rfl, _, rfl, _, _, rfl, rfl, .inl ⟨by omega, by omega⟩, ?_⟩
        refine ⟨_, rfl, _, rfl, .inr (.inl ⟨b, _, _, _, rfl, rfl, SqT.of eb4, az, _, _, rfl, rfl, ?_⟩)⟩
        refine ⟨_, rfl, a, _, rfl, .inr (SqT.of ha4), ?_⟩
        rw [lm]
        refine ⟨_, _, rfl, rfl, _, rfl, ite2 (fun c2 => ?go) (fun c2 => ?stop)⟩
      case go =>
        have c2 : at' * L + z < (mv.length : Int) := by simpa using c2
        have p0 : 0 ≤ at' * L + z := by
          have := Int.mul_nonneg a0 (show 0 ≤ L by omega)
          omega
        have lt : (at' * L + z).toNat < mv.length := by omega
        have em2 := List.getElem?_eq_getElem lt
        have gd : mv.getD (at' * L + z).toNat 0 = mv[(at' * L + z).toNat] := by
          rw [List.getD_eq_getElem?_getD, em2]
          rfl
        have nb := okM.2 _ (List.getElem_mem lt)
        have step : adv L mv s0 rest = adv L mv (mv[(at' * L + z).toNat]) (rest.drop (pl + 1)) := by
          rw [ad, dr]
          show (if at' * L + z < (mv.length : Int) then adv L mv (mv.getD (at' * L + z).toNat 0) (rest.drop (pl + 1)) else _) = _
          rw [if_pos c2, gd]
        refine ⟨fun σ' H' => ∃ m', m' < rest.length - pl ∧ ∃ (pl : Nat) (at' : Int), m' = rest.length - pl ∧ pl ≤ rest.length ∧ H' = H5 ∧ σ' = [some (.int L), some (.ref a), some (.ref d), some (.ref D), some (.int s0), some (.ref b), some (.int v), some (.int (pl : Int)), some (.int at')] ∧ 0 ≤ at' ∧ at' ≤ 100 ∧ adv L mv s0 rest = adv L mv at' (rest.drop pl), fun _ _ h => h, ?_⟩
        refine ⟨_, rfl, _, rfl, _, rfl, _, _, rfl, rfl, .inl ⟨by omega, by omega⟩, ?_⟩
        refine ⟨_, rfl, _, rfl, .inr (.inl ⟨b, _, _, _, rfl, rfl, SqT.of eb4, az, _, _, rfl, rfl, ?_⟩)⟩
        refine .inr (.inl ⟨a, _, _, _, rfl, rfl, SqT.of ha4, atI_get? p0 em2, ?_⟩)
        refine ⟨_, rfl, _, _, rfl, rfl, ?_⟩
        exact ⟨rest.length - (pl + 1), by omega, pl + 1, _, rfl, by omega, rfl, rfl, nb.1, nb.2, step⟩
      case' stop =>
        have key : adv L mv s0 rest = (at', rest.drop pl) := by
          rw [ad, dr]
          show (if at' * L + z < (mv.length : Int) then _ else (at', z :: rest.drop (pl + 1))) = _
          rw [if_neg (fun y => c2 (by simpa using y))]
        dsimp only
      case' out =>
        have key : adv L mv s0 rest = (at', rest.drop pl) := by
          rw [ad, List.drop_eq_nil_of_le (by simp at c1; omega)]
          rfl
      all_goals
        refine ⟨_, rfl, D, rfl, .inr ⟨acc, nd4⟩, ?_⟩
        have hplI : (pl : Int) ≤ ((rest.map V.int).length : Int) := by rw [lr]; omega
        refine ⟨_, rfl, _, rfl, _, rfl, _, rfl, ?_⟩
        dsimp only [tNoPart]
        refine slA_any eb4 fun H6 r s6 er => ?_
        rw [cut_drop (by omega) hplI, Int.toNat_natCast, ← List.map_drop] at er
        refine ⟨(by show 2 ≤ sizeLine; decide), fun kt hkt => ?_⟩
        have s7 := same_upd (o := .tup [.int at', .ref r]) s6 hkt
        have ekt : (upd H6 kt (.tup [.int at', .ref r])) kt = some (.tup [.int at', .ref r]) := upd_same
        have er7 := (same_upd (o := .tup [.int at', .ref r]) (Same.refl H6) hkt) _ _ er
        generalize upd H6 kt (.tup [.int at', .ref r]) = H7 at *
        have ka : KeyAt H7 kt (at', rest.drop pl) := ⟨r, ekt, er7⟩
        have nd7 := nd4.same s7
        have lacc := move_len em
        have lc := okC.1
        rw [List.length_take] at lacc
        have take1 : moveOn L mv (cl.take (i + 1)) = put1 acc (at', rest.drop pl) v := by
          rw [take_more ec, move_snoc, em]
          show put1 acc (adv L mv s0 rest) v = _
          rw [key]
        refine ⟨_, rfl, .inr ⟨kt, acc, (at', rest.drop pl), v, rfl, rfl, nd7, ka, Nat.lt_of_le_of_lt (by omega : acc.length ≤ 1000) (by decide), fun v0 hv => ?_, fun hn xs' nd8 => ?_⟩⟩
        · have q1 : put1 acc (at', rest.drop pl) v = if v0 = v then some acc else none := by
            unfold put1
            rw [hv]
          refine ⟨_, rfl, rfl, _, rfl, iteN2 (fun c3 => ?_) (fun c3 => ?_)⟩
          · have q2 : ¬ v0 = v := fun z => c3 (by rw [z])
            rw [q1, if_neg q2] at take1
            refine ⟨s4.trans s7 _ _ eSF, f0 ?_ _ (unlock_same ed (s4.trans s7))⟩
            rw [← List.take_append_drop (i + 1) cl]
            exact move_none take1
          · have q2 : v0 = v := by
              cases c3
              rfl
            rw [q1, if_pos q2] at take1
            exact ⟨_, _, _, _, _, acc, rfl, take1, nd7, s4.trans s7⟩
        · have q1 : put1 acc (at', rest.drop pl) v = some (acc ++ [((at', rest.drop pl), v)]) := by
            unfold put1
            rw [hn]
          rw [q1] at take1
          have s8 : Same (upd H d (.frz od (NestO P w d xs))) (upd H7 D (NestO P w D xs')) := same_set (s4.trans s7) hDF
          refine ⟨_, rfl, rfl, _, rfl, iteN2 (fun c3 => absurd rfl c3) (fun _ => ?_)⟩
          exact ⟨_, _, _, _, _, _, rfl, take1, nd8, s8⟩
    · rintro σ H3 ⟨v4, v5, v6, v7, v8, acc, rfl, em, nd, s3⟩
      rw [← lx, List.take_length] at em
      refine ⟨s3 _ _ eSF, _, rfl, f1 acc em _ D (unlock_same ed s3) ?_⟩
      obtain ⟨ys, eD, kD, pD⟩ := nd.ex
      exact ⟨ys, by rw [upd_ne Dd]; exact eD, fun x hx => upd_key (P := P) (w := w) (s3 _ _ eSF) (fun xs z => by cases z) (kD x hx), pD⟩
end
end K42

set_option Elab.async false
set_option linter.all false
set_option maxRecDepth 100000
set_option maxHeartbeats 4000000
/-! fractions: lowest terms, // by great ints of either sign -/
namespace Mz
open PySem PySem.Spec PyProof.Rows L2
/-- // by a divisor that is not 0, below 2 ^ 9000 -/
def CDivNW (_ j : Int) : Prop := j ≠ 0 ∧ j.natAbs.log2 < 9000
theorem op_fdivNW {X : Cx} : OpR X (binaryOp .FloorDiv) (rI CDivNW fun i j => .int (i.fdiv j)) := opI fun _ _ _ _ _ _ _ hc q => floordiv_int hc.1 q (.inl (PyProof.noPylong_of_log2 hc.2))
/-- below a power of two -/
def Fits (n : Nat) (x : Int) : Prop := x.natAbs < 2 ^ n
theorem Fits.mono {n m : Nat} {x : Int} (h : Fits n x) (q : n ≤ m) : Fits m x := Nat.lt_of_lt_of_le h (Nat.pow_le_pow_right (by decide) q)
theorem Fits.le {n : Nat} {x y : Int} (h : Fits n y) (q : x.natAbs ≤ y.natAbs) : Fits n x := Nat.lt_of_le_of_lt q h
theorem Fits.mul {n m : Nat} {x y : Int} (h : Fits n x) (q : Fits m y) : Fits (n + m) (x * y) := wide_lt h q
theorem Fits.add {n : Nat} {x y : Int} (h : Fits n x) (q : Fits n y) : Fits (n + 1) (x + y) := by
  unfold Fits at *
  rw [Nat.pow_succ]
  omega
theorem Fits.sub {n : Nat} {x y : Int} (h : Fits n x) (q : Fits n y) : Fits (n + 1) (x - y) := by
  unfold Fits at *
  rw [Nat.pow_succ]
  omega
theorem Fits.neg {n : Nat} {x : Int} (h : Fits n x) : Fits n (-x) := by
  unfold Fits at *
  omega
theorem Fits.log {n : Nat} {x : Int} (h : Fits n x) (h0 : 0 < n) : x.natAbs.log2 < n := PySem.Flt.log2_lt_of h0 h
theorem Fits.cmul {n m : Nat} {x y : Int} (h : Fits n x) (q : Fits m y) (h0 : 0 < n) (h1 : 0 < m) (hs : n + m ≤ 1000000) : CMulW x y := wide_mul h q h0 h1 hs
theorem Fits.cdiv {n : Nat} {x y : Int} (h : Fits n y) (h0 : y ≠ 0) (n0 : 0 < n) (hs : n ≤ 9000) : CDivNW x y := ⟨h0, Nat.lt_of_lt_of_le (h.log n0) hs⟩
/-- x / y is t / b in lowest terms -/
structure Red (t b x y : Int) : Prop where
  pos : 1 ≤ y
  low : Nat.gcd x.natAbs y.natAbs = 1
  val : x * b = t * y
  sx : x.natAbs ≤ t.natAbs
  sy : y.natAbs ≤ b.natAbs
/-- the greatest common divisor, with the sign of the denominator -/
def comm (t b : Int) : Int := if b < 0 then -((Nat.gcd t.natAbs b.natAbs : Nat) : Int) else ((Nat.gcd t.natAbs b.natAbs : Nat) : Int)
theorem gcd_pos {t b : Int} (h : b ≠ 0) : 0 < Nat.gcd t.natAbs b.natAbs := Nat.gcd_pos_of_pos_right _ (by omega)
theorem comm_abs (t b : Int) : (comm t b).natAbs = Nat.gcd t.natAbs b.natAbs := by
  unfold comm
  split <;> omega
theorem comm_ne {t b : Int} (h : b ≠ 0) : comm t b ≠ 0 := by
  have := comm_abs t b
  have := gcd_pos (t := t) h
  omega
theorem comm_le {t b : Int} (h : b ≠ 0) : (comm t b).natAbs ≤ b.natAbs := by
  rw [comm_abs]
  exact Nat.le_of_dvd (by omega) (Nat.gcd_dvd_right _ _)
theorem red_div {t b : Int} (h : b ≠ 0) : Red t b (t.fdiv (comm t b)) (b.fdiv (comm t b)) := by
  have c0 := comm_ne (t := t) h
  have ca := comm_abs t b
  have d1 : comm t b ∣ t := Int.natAbs_dvd_natAbs.mp (by rw [ca]; exact Nat.gcd_dvd_left _ _)
  have d2 : comm t b ∣ b := Int.natAbs_dvd_natAbs.mp (by rw [ca]; exact Nat.gcd_dvd_right _ _)
  have sg : (b < 0 → comm t b < 0) ∧ (0 < b → 0 < comm t b) := by
    have := gcd_pos (t := t) h
    unfold comm
    constructor
    · intro z
      rw [if_pos z]
      omega
    · intro z
      rw [if_neg (by omega)]
      omega
  generalize comm t b = c at *
  obtain ⟨t', et⟩ := d1
  obtain ⟨b', eb⟩ := d2
  have e1 : t.fdiv c = t' := by rw [et, Int.mul_fdiv_cancel_left _ c0]
  have e2 : b.fdiv c = b' := by rw [eb, Int.mul_fdiv_cancel_left _ c0]
  rw [e1, e2]
  have ta : t.natAbs = c.natAbs * t'.natAbs := by rw [et, Int.natAbs_mul]
  have ba : b.natAbs = c.natAbs * b'.natAbs := by rw [eb, Int.natAbs_mul]
  have cp : 0 < c.natAbs := by omega
  refine ⟨?_, ?_, ?_, ?_, ?_⟩
  · rcases Int.lt_or_gt_of_ne h with z | z
    · have cn := sg.1 z
      rcases Int.lt_or_le 0 b' with w | w
      · omega
      · have := Int.mul_nonneg_of_nonpos_of_nonpos (a := c) (b := b') (by omega) w
        omega
    · have cn := sg.2 z
      rcases Int.lt_or_le 0 b' with w | w
      · omega
      · have := Int.mul_nonpos_of_nonneg_of_nonpos (a := c) (b := b') (by omega) w
        omega
  · rw [ta, ba, Nat.gcd_mul_left] at ca
    have : c.natAbs * Nat.gcd t'.natAbs b'.natAbs = c.natAbs * 1 := by omega
    exact Nat.eq_of_mul_eq_mul_left cp this
  · rw [et, eb]
    rw [← Int.mul_assoc, Int.mul_comm t' c]
  · rw [ta]
    exact Nat.le_mul_of_pos_left _ cp
  · rw [ba]
    exact Nat.le_mul_of_pos_left _ cp
/-- a pair of a numerator and a denominator -/
def Frc (H : Hp) (p : Addr) (x y : Int) : Prop := H p = some (.tup [.int x, .int y])
theorem gcd_step (a b : Nat) (h : b ≠ 0) : Nat.gcd b (a % b) = Nat.gcd a b := by
  rw [Nat.gcd_comm b, ← Nat.gcd_rec, Nat.gcd_comm]
/-- fractions in lowest terms are equal if they have the same value -/
theorem low_eq {x y z w : Int} (hy : 1 ≤ y) (hw : 1 ≤ w) (lx : Nat.gcd x.natAbs y.natAbs = 1) (lz : Nat.gcd z.natAbs w.natAbs = 1) (h : x * w = z * y) : x = z ∧ y = w := by
  have d1 : y.natAbs ∣ w.natAbs := by
    have q : y.natAbs ∣ x.natAbs * w.natAbs := by
      rw [← Int.natAbs_mul, h, Int.natAbs_mul]
      exact Nat.dvd_mul_left _ _
    exact (Nat.Coprime.dvd_of_dvd_mul_left (by rw [Nat.Coprime, Nat.gcd_comm]; exact lx) q)
  have d2 : w.natAbs ∣ y.natAbs := by
    have q : w.natAbs ∣ z.natAbs * y.natAbs := by
      rw [← Int.natAbs_mul, ← h, Int.natAbs_mul]
      exact Nat.dvd_mul_left _ _
    exact (Nat.Coprime.dvd_of_dvd_mul_left (by rw [Nat.Coprime, Nat.gcd_comm]; exact lz) q)
  have e : y.natAbs = w.natAbs := Nat.dvd_antisymm d1 d2
  have e2 : y = w := by omega
  subst e2
  exact ⟨Int.eq_of_mul_eq_mul_right (by omega) h, rfl⟩
theorem dec_nat1 (n : Nat) : decide (V.int (n : Int) = V.int 1) = decide (n = 1) := by
  rw [decide_eq_decide]
  constructor
  · intro h
    injection h
    omega
  · intro h
    rw [h]
    rfl
theorem dec_int (x y : Int) : decide (V.int x = V.int y) = decide (x = y) := by simp
end Mz

set_option Elab.async false
set_option linter.all false
set_option maxRecDepth 100000
set_option maxHeartbeats 4000000
/-! lcm, xs[k::s], things held in tuples and lists of addresses -/
namespace Mz
open PySem PySem.Spec PyProof.Rows L2
def rLcm : List V → Hp → VK → Prop := fun vs H Q => ∃ a b : Int, vs = [.int a, .int b] ∧ a.natAbs < 2 ^ 64 ∧ b.natAbs < 2 ^ 64 ∧ Q (.int ((Nat.lcm a.natAbs b.natAbs : Nat) : Int)) H
theorem cr_lcm {X : Cx} : CallR X (.builtin "math.lcm") rLcm := by
  intro pins s σ H vs us Q I r h
  obtain ⟨a, b, rfl, ha, hb, q⟩ := h
  obtain ⟨t, u, rfl⟩ := Vals.int2 r
  exact PySem.W.mc_lcm ha hb fun _ => ⟨.int _, H, I.tok _, ⟨_, rfl⟩, q⟩
/-- every s-th item from place k on -/
def tStrL (K : PySem.W.Frag) (te tl ts : TE) : TE := fun σ H Q => te σ H fun x H1 => tPart tl σ H1 fun lo H2 => tPart ts σ H2 fun st H3 => ∃ a xs, ∃ k s n : Nat, x = .ref a ∧ SqL K H1 a xs ∧ SqL K H3 a xs ∧ lo = some (k : Int) ∧ st = some (s : Int) ∧ k < s ∧ xs.length = n * s ∧
  ∀ p ys, ys.length = n → (∀ j, j < n → ys[j]? = xs[k + s * j]?) → H3 p = none → Q (.ref p) (upd H3 p (.lst ys))
theorem fm_range {α : Type} (its : Array α) (f : Nat → Nat) : ∀ n : Nat, (∀ j, j < n → f j < its.size) → ∃ zs : List α, (List.range n).filterMap (fun j => its[f j]?) = zs ∧ zs.length = n ∧ ∀ j, j < n → zs[j]? = its[f j]?
  | 0, _ => ⟨[], rfl, rfl, fun j h => by omega⟩
  | n + 1, h => by
    obtain ⟨zs, e, l, g⟩ := fm_range its f n fun j hj => h j (by omega)
    have hn := h n (by omega)
    refine ⟨zs ++ [its[f n]], ?_, by rw [List.length_append, l]; rfl, fun j hj => ?_⟩
    · rw [List.range_succ, List.filterMap_append, e]
      congr 1
      rw [List.filterMap_cons, List.filterMap_nil, Array.getElem?_eq_getElem hn]
    · by_cases c : j < n
      · rw [List.getElem?_append_left (by omega)]
        exact g j c
      · have : j = n := by omega
        subst this
        rw [List.getElem?_append_right (by omega), l, Nat.sub_self, Array.getElem?_eq_getElem hn]
        rfl
theorem pick_stride (items : Array Value) (k s n : Nat) (hk : k < s) (hl : items.size = n * s) : ∃ zs : List Value, PySem.slicePick items (some (k : Int)) none (some (s : Int)) = zs.toArray ∧ zs.length = n ∧ ∀ j, j < n → zs[j]? = items[k + s * j]? := by
  have hs : (s : Int) > 0 := by omega
  have hb : PySem.sliceBounds (some (k : Int)) none (some (s : Int)) items.size = (max 0 (min (k : Int) (items.size : Int)), (items.size : Int), (s : Int)) := by
    unfold PySem.sliceBounds
    simp only [Option.getD_some, if_neg (show ¬ (k : Int) < 0 by omega), if_pos hs]
  have inb : ∀ j, j < n → k + s * j < items.size := fun j hj => by
    rw [hl]
    have h1 : s * j + s ≤ s * n := by
      have := Nat.mul_le_mul_left s (show j + 1 ≤ n by omega)
      rw [Nat.mul_add, Nat.mul_one] at this
      exact this
    rw [Nat.mul_comm n s]
    omega
  obtain ⟨zs, e, l, g⟩ := fm_range items (fun j => k + s * j) n inb
  refine ⟨zs, ?_, l, g⟩
  unfold PySem.slicePick
  rw [hb]
  show ((sliceRange (max 0 (min (k : Int) (items.size : Int))) (items.size : Int) (s : Int)).filterMap (items[·]?)).toArray = _
  rw [← e]
  congr 1
  have hr : sliceRange (max 0 (min (k : Int) (items.size : Int))) (items.size : Int) (s : Int) = (List.range n).map fun j => k + s * j := by
    cases n with
    | zero =>
      rw [hl, Nat.zero_mul]
      unfold sliceRange
      have : ¬ (max 0 (min (k : Int) ((0 : Nat) : Int)) < ((0 : Nat) : Int)) := by omega
      simp only [if_pos hs, if_neg this]
      rfl
    | succ n =>
      have hsz : s ≤ items.size := by
        rw [hl, Nat.succ_mul]
        omega
      have hm : max 0 (min (k : Int) (items.size : Int)) = (k : Int) := by omega
      rw [hm]
      unfold sliceRange
      have hlt : (k : Int) < (items.size : Int) := by omega
      have hc : ((items.size : Int) - (k : Int) + (s : Int) - 1) / (s : Int) = ((n + 1 : Nat) : Int) := by
        rw [hl]
        have e1 : (((n + 1) * s : Nat) : Int) - (k : Int) + (s : Int) - 1 = ((s : Int) - 1 - (k : Int)) + ((n + 1 : Nat) : Int) * (s : Int) := by
          push_cast
          omega
        rw [e1, Int.add_mul_ediv_right _ _ (by omega), Int.ediv_eq_zero_of_lt (by omega) (by omega)]
        omega
      simp only [if_pos hs, if_pos hlt, hc, Int.toNat_natCast]
      refine List.map_congr_left fun j _ => ?_
      have : (k : Int) + (s : Int) * (j : Int) = ((k + s * j : Nat) : Int) := by push_cast; rfl
      rw [this, Int.toNat_natCast]
  rw [hr, List.filterMap_map]
  rfl
theorem vals_pick : ∀ {xs : List V} {us : List Value}, Vals xs us → ∀ {j : Nat} {u : Value}, us[j]? = some u → ∃ x, xs[j]? = some x ∧ RelV x u
  | [], _, .nil, j, u, h => by simp at h
  | x :: xs, _, .cons h1 h2, 0, u, h => by
    cases h
    exact ⟨x, rfl, h1⟩
  | x :: xs, _, .cons h1 h2, j + 1, u, h => vals_pick h2 (j := j) (by simpa using h)
theorem vals_choose {xs : List V} {us : List Value} (r : Vals xs us) (f : Nat → Nat) : ∀ {zs : List Value}, (∀ j, j < zs.length → zs[j]? = us[f j]?) → ∃ ys : List V, Vals ys zs ∧ ys.length = zs.length ∧ ∀ j, j < zs.length → ys[j]? = xs[f j]?
  | [], _ => ⟨[], .nil, rfl, fun j h => by simp at h⟩
  | z :: zs, h => by
    have h0 := h 0 (by simp)
    obtain ⟨x, hx, rx⟩ := vals_pick r (h0.symm.trans rfl : us[f 0]? = some z)
    obtain ⟨ys, a, b, c⟩ := vals_choose r (fun j => f (j + 1)) (zs := zs) fun j hj => by
      have := h (j + 1) (by simpa using hj)
      simpa using this
    refine ⟨x :: ys, .cons rx a, by rw [List.length_cons, b]; rfl, fun j hj => ?_⟩
    cases j with
    | zero => exact hx.symm
    | succ j => simpa using c j (by simpa using hj)
theorem pe_strideL {X : Cx} {e lo st : Expr} {te tl ts : TE} {p3 pos : Pos} (he : PE X e te) (hl : PE X lo tl) (hs : PE X st ts) : PE X (.Subscript e (.Slice (some lo) none (some st) p3) pos) (tStrL X.K te tl ts) := by
  refine ⟨fun pins s σ H Q I h => ?_⟩
  refine Subscript_ (thn (he.run pins s σ H _ I h) fun v s1 ⟨x, H1, I1, r1, q1⟩ => ?_)
  refine wpAny_Slice (thn ((po_some hl).run pins s1 σ H1 _ I1 q1) fun vl s2 ⟨l, H2, I2, pl, q2⟩ => ?_)
  refine thn (po_none.run pins s2 σ H2 (fun o H3 => o = none ∧ H3 = H2) I2 ⟨rfl, rfl⟩) fun vu s3 ⟨u, H3, I3, pu, eu, e3⟩ => ?_
  subst eu e3
  refine thn ((po_some hs).run pins s3 σ H3 _ I3 q2) fun vs s4 ⟨o, H4, I4, ps, q4⟩ => ?_
  obtain ⟨a, xs, k, sn, n, ex, hx1, hx, e1, e2, hk, hn, q⟩ := q4
  subst ex e1 e2
  cases r1
  have I5 : Inv X pins σ H4 { s4 with heap := s4.heap.push { cls := .type "slice", data := .fields #[vl, vu, vs] } } := I4.kept (t' := s4.toks) fun b ob q => Heap.get?_push_of_some _ q
  obtain ⟨its, r, ht, hz⟩ := I5.list hx
  have hlen := r.length
  show wpAny (model X.prog X.w) X.A (subscriptTail e (.Slice (some lo) none (some st) p3) (.ref a) (.ref s4.heap.objs.size)) (EP X pins σ Q) X.xe { s4 with heap := s4.heap.push { cls := .type "slice", data := .fields #[vl, vu, vs] } }
  refine tail_any (ops := [.ref a, .ref s4.heap.objs.size]) ht.isList.typeIs (PySem.slot_list_getitem.lookup) ?_ (by with_unfolding_all rfl)
  refine wpAny_getItem_list_slice ht.isList (Heap.IsSliceOf.new _ vl vu vs) pl pu ps (by simp; omega) ?_ (by rw [List.size_toArray]; omega)
  obtain ⟨zs, e5, l5, g5⟩ := pick_stride its.toArray k sn n hk (by rw [List.size_toArray]; omega)
  rw [e5]
  obtain ⟨ys, ry, ly, gy⟩ := vals_choose r (fun j => k + sn * j) (zs := zs) fun j hj => by
    rw [g5 j (by omega), List.getElem?_toArray]
  refine ⟨.ref _, _, I5.laid (t' := s4.toks) (o := .lst ys) (fun b ob q => Heap.get?_push_of_some _ q) (Nat.le_refl _) ?_, rfl, q _ ys (by omega) (fun j hj => gy j (by omega)) (I5.hok.fresh (Nat.le_refl _))⟩
  refine ⟨?_, _, 0, ry, Heap.get?_push_size _ rfl⟩
  have h1 : ys.length ≤ xs.length := by
    rw [hn]
    have := Nat.mul_le_mul_left n (show 1 ≤ sn by omega)
    omega
  exact Nat.le_trans h1 (by omega)
end Mz
namespace Mz
open PySem PySem.Spec PyProof.Rows L2
abbrev Fq := Int × Int
def FrA (H : Hp) (a : Addr) (f : Fq) : Prop := Frc H a f.1 f.2
/-- all tuples stay -/
def TS (H H' : Hp) : Prop := ∀ a xs, H a = some (.tup xs) → H' a = some (.tup xs)
theorem TS.refl (H : Hp) : TS H H := fun _ _ h => h
theorem TS.of {H H' : Hp} (s : Same H H') : TS H H' := fun a _ h => s a _ h
theorem TS.trans {H H1 H2 : Hp} (a : TS H H1) (b : TS H1 H2) : TS H H2 := fun c _ h => b c _ (a c _ h)
theorem TS.lst {H : Hp} {D : Addr} {vs : List V} {o : HO} (h : H D = some (.lst vs)) : TS H (upd H D o) := fun a xs e => (upd_ne fun z => by rw [z, h] at e; cases e).trans e
theorem TS.new {H : Hp} {D : Addr} {o : HO} (h : H D = none) : TS H (upd H D o) := fun a xs e => (upd_ne fun z => by rw [z, h] at e; cases e).trans e
def Kept {α : Type} (R : Hp → Addr → α → Prop) : Prop := ∀ H H' a x, TS H H' → R H a x → R H' a x
def Rel {α : Type} (R : Hp → Addr → α → Prop) (H : Hp) (ts : List Addr) (xs : List α) : Prop := ts.length = xs.length ∧ ∀ (i : Nat) (t : Addr) (x : α), ts[i]? = some t → xs[i]? = some x → R H t x
def TupOf {α : Type} (R : Hp → Addr → α → Prop) (H : Hp) (a : Addr) (xs : List α) : Prop := ∃ ts : List Addr, H a = some (.tup (ts.map V.ref)) ∧ Rel R H ts xs
def LstOf {α : Type} (R : Hp → Addr → α → Prop) (H : Hp) (a : Addr) (xs : List α) : Prop := ∃ ts : List Addr, H a = some (.lst (ts.map V.ref)) ∧ Rel R H ts xs
/-- a tuple or a list of them -/
def SeqOf {α : Type} (R : Hp → Addr → α → Prop) (K : PySem.W.Frag) (H : Hp) (a : Addr) (xs : List α) : Prop := ∃ ts : List Addr, (SqL K H a (ts.map V.ref) ∨ SqT K H a (ts.map V.ref)) ∧ Rel R H ts xs
theorem keptFr : Kept FrA := fun _ _ _ _ s h => s _ _ h
section
variable {α : Type} {R : Hp → Addr → α → Prop} {H H' : Hp} {a D t : Addr} {xs : List α} {x : α} {ts : List Addr}
theorem Rel.kept (k : Kept R) (s : TS H H') (h : Rel R H ts xs) : Rel R H' ts xs := ⟨h.1, fun i t x p q => k _ _ _ _ s (h.2 i t x p q)⟩
theorem Rel.nil : Rel R H [] [] := ⟨rfl, fun i t x h => by simp at h⟩
theorem Rel.push (h : Rel R H ts xs) (e : R H t x) : Rel R H (ts ++ [t]) (xs ++ [x]) := by
  refine ⟨by rw [List.length_append, List.length_append, h.1]; rfl, fun i t' x' p q => ?_⟩
  by_cases c : i < ts.length
  · rw [List.getElem?_append_left c] at p
    rw [List.getElem?_append_left (by rw [← h.1]; exact c)] at q
    exact h.2 i t' x' p q
  · rw [List.getElem?_append_right (by omega)] at p
    rw [List.getElem?_append_right (by have := h.1; omega), ← h.1] at q
    cases hh : i - ts.length with
    | zero =>
      rw [hh] at p q
      cases p
      cases q
      exact e
    | succ k =>
      rw [hh] at p
      simp at p
theorem Rel.at (h : Rel R H ts xs) {i : Nat} (e : xs[i]? = some x) : ∃ t, ts[i]? = some t ∧ R H t x := by
  have l := (List.getElem?_eq_some_iff.mp e).1
  have et := List.getElem?_eq_getElem (l := ts) (i := i) (by rw [h.1]; exact l)
  exact ⟨_, et, h.2 i _ _ et e⟩
theorem Rel.to (h : Rel R H ts xs) {i : Nat} (e : ts[i]? = some t) : ∃ x, xs[i]? = some x ∧ R H t x := by
  have l := (List.getElem?_eq_some_iff.mp e).1
  have et := List.getElem?_eq_getElem (l := xs) (i := i) (by rw [← h.1]; exact l)
  exact ⟨_, et, h.2 i _ _ e et⟩
theorem Rel.set (k : Kept R) (h : Rel R H ts xs) (e : R H t x) (i : Nat) : Rel R H (ts.set i t) (xs.set i x) := by
  refine ⟨by rw [List.length_set, List.length_set, h.1], fun j t' x' p q => ?_⟩
  by_cases c : i = j
  · subst c
    rw [List.getElem?_set] at p q
    simp only [if_true] at p q
    split at p <;> cases p
    split at q <;> cases q
    exact e
  · rw [List.getElem?_set_ne c] at p q
    exact h.2 j t' x' p q
theorem Kept.tup (k : Kept R) : Kept (TupOf R) := fun _ _ _ _ s ⟨ts, e, r⟩ => ⟨ts, s _ _ e, r.kept k s⟩
theorem TupOf.same (k : Kept R) (h : TupOf R H a xs) (s : Same H H') : TupOf R H' a xs := k.tup _ _ _ _ (TS.of s) h
theorem LstOf.same (k : Kept R) (h : LstOf R H a xs) (s : Same H H') : LstOf R H' a xs := let ⟨ts, e, r⟩ := h; ⟨ts, s _ _ e, r.kept k (TS.of s)⟩
theorem LstOf.nil (h : H D = some (.lst [])) : LstOf R H D [] := ⟨[], h, .nil⟩
theorem LstOf.push (k : Kept R) (h : LstOf R H D xs) (e : R H t x) : ∃ acc, H D = some (.lst acc) ∧ acc.length = xs.length ∧ LstOf R (upd H D (.lst (acc ++ [.ref t]))) D (xs ++ [x]) := by
  obtain ⟨ts, ed, r⟩ := h
  refine ⟨ts.map V.ref, ed, by rw [List.length_map]; exact r.1, ts ++ [t], by rw [upd_same, List.map_append]; rfl, ?_⟩
  exact (r.kept k (TS.lst ed)).push (k _ _ _ _ (TS.lst ed) e)
theorem TupOf.seq {K : PySem.W.Frag} (h : TupOf R H a xs) : SeqOf R K H a xs := let ⟨ts, e, r⟩ := h; ⟨ts, .inr (SqT.of e), r⟩
theorem LstOf.seq {K : PySem.W.Frag} (h : LstOf R H a xs) : SeqOf R K H a xs := let ⟨ts, e, r⟩ := h; ⟨ts, .inl (SqL.of e), r⟩
/-- the tuple of a list -/
theorem Rel.tuple (k : Kept R) (r : Rel R H ts xs) (hn : H t = none) : TupOf R (upd H t (.tup (ts.map V.ref))) t xs := ⟨ts, upd_same, r.kept k (TS.new hn)⟩
theorem Rel.list (k : Kept R) (r : Rel R H ts xs) (hn : H t = none) : LstOf R (upd H t (.lst (ts.map V.ref))) t xs := ⟨ts, upd_same, r.kept k (TS.new hn)⟩
end
end Mz

set_option Elab.async false
set_option linter.all false
namespace Mz
open PySem PySem.Spec PyProof.Rows L2
/-- the states in another order -/
def pm (sh : Int) (n : Nat) (k : Int) : Int := if k = 0 then 0 else 1 + (k - 1 + sh) % ((n : Int) - 1)
theorem pm_zero {sh : Int} {n : Nat} : pm sh n 0 = 0 := if_pos rfl
theorem pm_in {sh : Int} {n : Nat} {k : Int} (h0 : 0 ≤ k) (h1 : k < n) : 0 ≤ pm sh n k ∧ pm sh n k < n := by
  unfold pm
  split
  · omega
  · have q0 := Int.emod_nonneg (k - 1 + sh) (show (n : Int) - 1 ≠ 0 by omega)
    have q1 := Int.emod_lt_of_pos (k - 1 + sh) (show 0 < (n : Int) - 1 by omega)
    omega
theorem emod_zero_small {d m : Int} (h : d % m = 0) (h1 : -m < d) (h2 : d < m) : d = 0 := by
  by_cases c : 0 ≤ d
  · rw [Int.emod_eq_of_lt c h2] at h
    exact h
  · have e : (d + m) % m = d % m := by simp
    rw [Int.emod_eq_of_lt (by omega) (by omega), h] at e
    omega
theorem pm_inj {sh : Int} {n : Nat} {k j : Int} (k0 : 0 ≤ k) (k1 : k < n) (j0 : 0 ≤ j) (j1 : j < n) (e : pm sh n k = pm sh n j) : k = j := by
  unfold pm at e
  by_cases c : k = 0
  · by_cases d : j = 0
    · omega
    · rw [if_pos c, if_neg d] at e
      have q0 := Int.emod_nonneg (j - 1 + sh) (show (n : Int) - 1 ≠ 0 by omega)
      omega
  · by_cases d : j = 0
    · rw [if_neg c, if_pos d] at e
      have q0 := Int.emod_nonneg (k - 1 + sh) (show (n : Int) - 1 ≠ 0 by omega)
      omega
    · rw [if_neg c, if_neg d] at e
      have e2 : (k - 1 + sh) % ((n : Int) - 1) = (j - 1 + sh) % ((n : Int) - 1) := by omega
      have e3 := Int.emod_eq_emod_iff_emod_sub_eq_zero.mp e2
      have := emod_zero_small e3 (by omega) (by omega)
      omega
theorem pm_sur {sh : Int} {n : Nat} {y : Int} (y0 : 0 ≤ y) (y1 : y < n) : ∃ k : Int, 0 ≤ k ∧ k < n ∧ pm sh n k = y := by
  by_cases c : y = 0
  · exact ⟨0, by omega, by omega, by rw [c]; exact pm_zero⟩
  · have q0 := Int.emod_nonneg (y - 1 - sh) (show (n : Int) - 1 ≠ 0 by omega)
    have q1 := Int.emod_lt_of_pos (y - 1 - sh) (show 0 < (n : Int) - 1 by omega)
    refine ⟨1 + (y - 1 - sh) % ((n : Int) - 1), by omega, by omega, ?_⟩
    unfold pm
    rw [if_neg (by omega), show 1 + (y - 1 - sh) % ((n : Int) - 1) - 1 + sh = (y - 1 - sh) % ((n : Int) - 1) + sh by omega, Int.emod_add_emod, show y - 1 - sh + sh = y - 1 by omega, Int.emod_eq_of_lt (by omega) (by omega)]
    omega
section
variable {M N : Mach} {sh : Int}
/-- N is M with its states in another order -/
structure Turned (sh : Int) (M N : Mach) : Prop where
  ls : N.ls = M.ls
  os : N.os = M.os
  len : N.rows.length = M.rows.length
  ol : N.outs.length = M.rows.length
  row : ∀ i, i < M.rows.length → N.rows[(pm sh M.rows.length i).toNat]? = some ((M.rows.getD i []).map (pm sh M.rows.length))
  out : ∀ i, i < M.rows.length → N.outs[(pm sh M.rows.length i).toNat]? = some (M.out i)
theorem Turned.good (t : Turned sh M N) (g : Good M) : Good N := by
  have sur : ∀ y, y < M.rows.length → ∃ i, i < M.rows.length ∧ (pm sh M.rows.length (i : Nat)).toNat = y := fun y hy => by
    obtain ⟨k, h0, h1, h2⟩ := pm_sur (sh := sh) (n := M.rows.length) (y := (y : Int)) (by omega) (by omega)
    exact ⟨k.toNat, by omega, by rw [show ((k.toNat : Nat) : Int) = k by omega, h2]; omega⟩
  have rowOf : ∀ w ∈ N.rows, ∃ i w0, w0 ∈ M.rows ∧ i < M.rows.length ∧ w = w0.map (pm sh M.rows.length) := fun w hw => by
    obtain ⟨y, hy, e⟩ := List.getElem_of_mem hw
    obtain ⟨i, hi, ei⟩ := sur y (by rw [← t.len]; exact hy)
    have := t.row i hi
    rw [ei, List.getElem?_eq_getElem hy, e] at this
    refine ⟨i, M.rows[i], List.getElem_mem hi, hi, ?_⟩
    rw [List.getD_eq_getElem?_getD, List.getElem?_eq_getElem hi] at this
    exact Option.some.inj this
  refine ⟨by rw [t.ls]; exact g.l1, by rw [t.ls]; exact g.l4, by rw [t.os]; exact g.o1, by rw [t.os]; exact g.o6, by rw [t.len]; exact g.s1, by rw [t.len]; exact g.s30, by rw [t.ol, t.len], fun w hw => ?_, fun w hw z hz => ?_, fun z hz => ?_⟩
  · obtain ⟨i, w0, h1, h2, rfl⟩ := rowOf w hw
    rw [List.length_map, t.ls]
    exact g.rl w0 h1
  · obtain ⟨i, w0, h1, h2, rfl⟩ := rowOf w hw
    obtain ⟨x, hx, rfl⟩ := List.mem_map.mp hz
    have := g.rb w0 h1 x hx
    rw [t.len]
    exact pm_in this.1 this.2
  · obtain ⟨y, hy, e⟩ := List.getElem_of_mem hz
    obtain ⟨i, hi, ei⟩ := sur y (by rw [← t.ol]; exact hy)
    have := t.out i hi
    rw [ei, List.getElem?_eq_getElem hy, e] at this
    rw [t.os, Option.some.inj this]
    exact (g.outp (s := (i : Int)) ⟨by omega, by omega⟩).2
theorem Turned.next (t : Turned sh M N) (g : Good M) {s a : Int} (hs : M.St s) (h0 : 0 ≤ a) (h1 : a < M.ls) : N.next (pm sh M.rows.length s) a = pm sh M.rows.length (M.next s a) := by
  obtain ⟨_, w, e1, e2⟩ := g.step hs h0 h1
  have s0 := hs.1
  have s1 := hs.2
  have r := t.row s.toNat (by omega)
  rw [show ((s.toNat : Nat) : Int) = s by omega] at r
  have wg : M.rows.getD s.toNat [] = w := by
    rw [List.getD_eq_getElem?_getD, e1]
    rfl
  rw [wg] at r
  have rg : N.rows.getD (pm sh M.rows.length s).toNat [] = w.map (pm sh M.rows.length) := by
    rw [List.getD_eq_getElem?_getD, r]
    rfl
  show (N.rows.getD (pm sh M.rows.length s).toNat []).getD a.toNat 0 = _
  rw [rg, List.getD_eq_getElem?_getD, List.getElem?_map, e2]
  rfl
theorem Turned.run (t : Turned sh M N) (g : Good M) : ∀ (v : List Int) (s : Int), M.St s → Lt M.ls v → N.run (pm sh M.rows.length s) v = pm sh M.rows.length (M.run s v)
  | [], s, _, _ => rfl
  | a :: v, s, hs, hv => by
    have ha := hv a List.mem_cons_self
    show N.run (N.next (pm sh M.rows.length s) a) v = pm sh M.rows.length (M.run (M.next s a) v)
    rw [t.next g hs ha.1 ha.2]
    exact Turned.run t g v _ (g.step hs ha.1 ha.2).1 fun z hz => hv z (List.mem_cons_of_mem _ hz)
theorem Turned.sim (t : Turned sh M N) (g : Good M) : Sim M N 0 0 := fun v hv => by
  have r := t.run g v 0 g.st0 hv
  rw [pm_zero] at r
  rw [r]
  have st := g.runs g.st0 hv
  have s0 := st.1
  have s1 := st.2
  have o := t.out (M.run 0 v).toNat (by omega)
  rw [show (((M.run 0 v).toNat : Nat) : Int) = M.run 0 v by omega] at o
  show _ = N.outs.getD _ 0
  rw [List.getD_eq_getElem?_getD, o]
  rfl
end
end Mz

set_option Elab.async false
set_option linter.all false
set_option maxRecDepth 100000
set_option maxHeartbeats 4000000
/-! breadth first over one machine: the first word to each state -/
namespace Mz
open PySem PySem.Spec PyProof.Rows L2
def rLenK (K : PySem.W.Frag) : List V → Hp → VK → Prop := fun xs H Q => ∃ p ys, xs = [V.ref p] ∧ (SqL K H p ys ∨ SqT K H p ys) ∧ Q (V.int ((ys.length : Nat) : Int)) H
theorem call_lenK {X : Cx} : CallR X (Value.builtin "len") (rLenK X.K) := call_len_seq
abbrev Wn := Int × List Int
def addW (M : Mach) (s : Int) (w : List Int) (L : List Wn) (a : Int) : List Wn := if (L.any fun n => decide (n.1 = M.next s a)) = true then L else L ++ [(M.next s a, w ++ [a])]
def procW (M : Mach) (n : Wn) (L : List Wn) (j : Nat) : List Wn := (List.range j).foldl (fun L a => addW M n.1 n.2 L ((a : Nat) : Int)) L
theorem procW_zero {M : Mach} {n : Wn} {L : List Wn} : procW M n L 0 = L := rfl
theorem procW_succ {M : Mach} {n : Wn} {L : List Wn} {j : Nat} : procW M n L (j + 1) = addW M n.1 n.2 (procW M n L j) ((j : Nat) : Int) := by
  unfold procW
  rw [List.range_succ, List.foldl_append]
  rfl
def runW (M : Mach) : Nat → List Wn
  | 0 => [(0, [])]
  | i + 1 => match (runW M i)[i]? with
    | some n => procW M n (runW M i) M.ls.toNat
    | none => runW M i
theorem runW_some {M : Mach} {i : Nat} {n : Wn} (h : (runW M i)[i]? = some n) : runW M (i + 1) = procW M n (runW M i) M.ls.toNat := by
  show (match (runW M i)[i]? with
    | some n => procW M n (runW M i) M.ls.toNat
    | none => runW M i) = _
  rw [h]
theorem runW_none {M : Mach} {i : Nat} (h : (runW M i)[i]? = none) : runW M (i + 1) = runW M i := by
  show (match (runW M i)[i]? with
    | some n => procW M n (runW M i) M.ls.toNat
    | none => runW M i) = _
  rw [h]
structure Wok (M : Mach) (L : List Wn) : Prop where
  nod : (L.map (·.1)).Nodup
  st : ∀ n ∈ L, M.St n.1
  lt : ∀ n ∈ L, Lt M.ls n.2
  ln : ∀ (i : Nat) (n : Wn), L[i]? = some n → n.2.length ≤ i
  hd : L[0]? = some (0, [])
theorem addW_keep {M : Mach} {s : Int} {w : List Int} {L : List Wn} {a : Int} {i : Nat} {n : Wn} (h : L[i]? = some n) : (addW M s w L a)[i]? = some n := by
  unfold addW
  split
  · exact h
  · exact get_app1 h
theorem Wok.add {M : Mach} {L : List Wn} (k : Wok M L) (g : Good M) {i : Nat} {n : Wn} (h : L[i]? = some n) {a : Int} (h0 : 0 ≤ a) (h1 : a < M.ls) : Wok M (addW M n.1 n.2 L a) := by
  have hn := List.mem_of_getElem? h
  unfold addW
  split
  · exact k
  · rename_i c
    have c : ∀ m ∈ L, m.1 ≠ M.next n.1 a := fun m hm e => c (List.any_eq_true.mpr ⟨m, hm, decide_eq_true e⟩)
    refine ⟨?_, fun m hm => ?_, fun m hm => ?_, fun j m hm => ?_, get_app1 k.hd⟩
    · rw [List.map_append]
      refine List.nodup_append.mpr ⟨k.nod, by simp, fun p hp q hq e => ?_⟩
      obtain ⟨m, hm, rfl⟩ := List.mem_map.mp hp
      rw [List.map_singleton, List.mem_singleton] at hq
      exact c m hm (e.trans hq)
    · rcases List.mem_append.mp hm with z | z
      · exact k.st m z
      · rw [List.mem_singleton.mp z]
        exact (g.step (k.st n hn) h0 h1).1
    · rcases List.mem_append.mp hm with z | z
      · exact k.lt m z
      · rw [List.mem_singleton.mp z]
        exact lt_snoc.mpr ⟨k.lt n hn, h0, h1⟩
    · rcases get_app hm with z | ⟨e, z⟩
      · exact k.ln j m z
      · rw [z]
        show (n.2 ++ [a]).length ≤ j
        rw [List.length_append]
        have := k.ln i n h
        obtain ⟨lt, _⟩ := List.getElem?_eq_some_iff.mp h
        show n.2.length + 1 ≤ j
        omega
theorem Wok.proc {M : Mach} {L : List Wn} (k : Wok M L) (g : Good M) {i : Nat} {n : Wn} (h : L[i]? = some n) : ∀ j : Nat, (j : Int) ≤ M.ls → Wok M (procW M n L j) ∧ (procW M n L j)[i]? = some n
  | 0, _ => ⟨k, h⟩
  | j + 1, hj => by
    obtain ⟨a, b⟩ := Wok.proc k g h j (by omega)
    rw [procW_succ]
    exact ⟨a.add g b (by omega) (by omega), addW_keep b⟩
theorem Wok.start {M : Mach} (g : Good M) : Wok M [(0, [])] where
  nod := by simp
  st n hn := by
    rw [List.mem_singleton.mp hn]
    exact g.st0
  lt n hn := by
    rw [List.mem_singleton.mp hn]
    exact fun z hz => absurd hz (by simp)
  ln i n h := by
    obtain ⟨lt, e⟩ := List.getElem?_eq_some_iff.mp h
    have : i = 0 := by simpa using lt
    subst this
    rw [← e]
    exact Nat.le_refl 0
  hd := rfl
theorem wok_run {M : Mach} (g : Good M) : ∀ i, Wok M (runW M i)
  | 0 => Wok.start g
  | i + 1 => by
    have ih := wok_run g i
    cases h : (runW M i)[i]? with
    | none =>
      rw [runW_none h]
      exact ih
    | some n =>
      rw [runW_some h]
      have := g.l1
      exact (ih.proc g h M.ls.toNat (by omega)).1
theorem Wok.few {M : Mach} {L : List Wn} (k : Wok M L) : L.length ≤ M.rows.length := by
  have h := nodup_few M.rows.length (L.map fun n => n.1.toNat) ?_ ?_
  · rw [List.length_map] at h
    exact h
  · have e : (L.map fun n => n.1.toNat) = (L.map (·.1)).map Int.toNat := by rw [List.map_map]; rfl
    rw [e]
    refine List.pairwise_map.mpr (List.Pairwise.imp_of_mem (fun {a b} ha hb ne => ?_) k.nod)
    obtain ⟨x, hx, rfl⟩ := List.mem_map.mp ha
    obtain ⟨y, hy, rfl⟩ := List.mem_map.mp hb
    have := (k.st x hx).1
    have := (k.st y hy).1
    intro z
    exact ne (by omega)
  · intro x hx
    obtain ⟨n, hn, rfl⟩ := List.mem_map.mp hx
    have q := k.st n hn
    have q1 := q.1
    have q2 := q.2
    omega
theorem runW_end {M : Mach} {i : Nat} (h : (runW M i).length ≤ i) : ∀ d, runW M (i + d) = runW M i
  | 0 => rfl
  | d + 1 => by
    have ih := runW_end h d
    rw [show i + (d + 1) = (i + d) + 1 by omega, runW_none, ih]
    rw [ih]
    exact List.getElem?_eq_none (by omega)
def lastW (M : Mach) : List Wn := runW M M.rows.length
theorem runW_last {M : Mach} (g : Good M) {i : Nat} (h : (runW M i).length ≤ i) : runW M i = lastW M := by
  have f := (wok_run g M.rows.length).few
  unfold lastW
  rcases Nat.le_total i M.rows.length with z | z
  · have := runW_end h (M.rows.length - i)
    rw [← this, show i + (M.rows.length - i) = M.rows.length by omega]
  · have := runW_end f (i - M.rows.length)
    rw [← this, show M.rows.length + (i - M.rows.length) = i by omega]
def lookW (L : List Wn) (s : Int) : Option (List Int) := (L.find? fun n => decide (n.1 = s)).map (·.2)
/-- the first word to a state -/
def wayW (M : Mach) (s : Int) : Option (List Int) := lookW (lastW M) s
theorem lookW_mem {L : List Wn} {s : Int} {w : List Int} (h : lookW L s = some w) : (s, w) ∈ L := by
  unfold lookW at h
  cases e : L.find? (fun n => decide (n.1 = s)) with
  | none => rw [e] at h; cases h
  | some n =>
    rw [e] at h
    have h1 := List.find?_some e
    have h2 := List.mem_of_find?_eq_some e
    have : n = (s, w) := Prod.ext (by simpa using h1) (Option.some.inj h)
    rw [← this]
    exact h2
theorem way_ok {M : Mach} (g : Good M) {s : Int} {w : List Int} (h : wayW M s = some w) : Lt M.ls w ∧ w.length ≤ 30 := by
  have k := wok_run g M.rows.length
  have hm : (s, w) ∈ runW M M.rows.length := lookW_mem h
  refine ⟨k.lt _ hm, ?_⟩
  obtain ⟨j, hj, e⟩ := List.getElem_of_mem hm
  have := k.ln j (s, w) (by rw [List.getElem?_eq_getElem hj, e])
  have := k.few
  have := g.s30
  show w.length ≤ 30
  simp at *
  omega
theorem way_zero {M : Mach} (g : Good M) : wayW M 0 = some [] := by
  have k := wok_run g M.rows.length
  unfold wayW lastW lookW
  have h := k.hd
  cases e : runW M M.rows.length with
  | nil => rw [e] at h; cases h
  | cons n L =>
    rw [e] at h
    have : n = (0, []) := Option.some.inj h
    rw [this]
    rfl
/-! ### in the heap -/
structure Nb where
  st : Int
  wd : List Int
  wa : Addr
def bare (L : List Nb) : List Wn := L.map fun n => (n.st, n.wd)
def dictW (L : List Nb) : List (L2.Key × V) := L.map fun n => (Sum.inl n.st, V.ref n.wa)
theorem valWn (s : Int) : ∀ L : List Nb, (valV (dictW L) (Sum.inl s) = none ∧ ∀ n ∈ L, n.st ≠ s) ∨ ∃ n ∈ L, n.st = s ∧ valV (dictW L) (Sum.inl s) = some (.ref n.wa) ∧ lookW (bare L) s = some n.wd
  | [] => .inl ⟨rfl, fun n hn => absurd hn (by simp)⟩
  | n :: L => by
    by_cases h : n.st = s
    · refine .inr ⟨n, List.mem_cons_self, h, valV_pos (p := (Sum.inl n.st, V.ref n.wa)) (by rw [h]), ?_⟩
      unfold lookW bare
      rw [List.map_cons, List.find?_cons_of_pos (by simpa using h)]
      rfl
    · have e : valV (dictW (n :: L)) (Sum.inl s) = valV (dictW L) (Sum.inl s) := valV_neg (p := (Sum.inl n.st, V.ref n.wa)) fun z => h (Sum.inl.inj z)
      have e2 : lookW (bare (n :: L)) s = lookW (bare L) s := by
        unfold lookW bare
        rw [List.map_cons, List.find?_cons_of_neg (by simpa using h)]
      rcases valWn s L with ⟨h1, h2⟩ | ⟨m, hm, h1, h2, h3⟩
      · refine .inl ⟨by rw [e]; exact h1, fun m hm => ?_⟩
        rcases List.mem_cons.mp hm with z | z
        · rw [z]; exact h
        · exact h2 m z
      · exact .inr ⟨m, List.mem_cons_of_mem _ hm, h1, by rw [e]; exact h2, by rw [e2]; exact h3⟩
theorem look_none {L : List Nb} {s : Int} (h : ∀ n ∈ L, n.st ≠ s) : lookW (bare L) s = none := by
  unfold lookW
  rw [List.find?_eq_none.mpr]
  · rfl
  · intro x hx
    obtain ⟨n, hn, rfl⟩ := List.mem_map.mp hx
    simpa using h n hn
theorem addW_old {M : Mach} {s : Int} {w : List Int} {L : List Nb} {a : Int} {n : Nb} (hn : n ∈ L) (e : n.st = M.next s a) : addW M s w (bare L) a = bare L := by
  unfold addW
  rw [if_pos]
  exact List.any_eq_true.mpr ⟨_, List.mem_map.mpr ⟨n, hn, rfl⟩, decide_eq_true e⟩
theorem addW_new {M : Mach} {s : Int} {w : List Int} {L : List Nb} {a : Int} {r : Addr} (h : ∀ n ∈ L, n.st ≠ M.next s a) : addW M s w (bare L) a = bare (L ++ [⟨M.next s a, w ++ [a], r⟩]) := by
  unfold addW
  rw [if_neg]
  · unfold bare
    rw [List.map_append]
    rfl
  · intro z
    obtain ⟨x, hx, e⟩ := List.any_eq_true.mp z
    obtain ⟨n, hn, rfl⟩ := List.mem_map.mp hx
    exact h n hn (by simpa using e)
theorem bare_at {L : List Nb} {i : Nat} {n : Nb} (h : L[i]? = some n) : (bare L)[i]? = some (n.st, n.wd) := by
  unfold bare
  rw [List.getElem?_map, h]
  rfl
/-- a dict of ways and a queue -/
structure WB (H0 H' : Hp) (d qa : Addr) (L : List Nb) : Prop where
  same : Same H0 H'
  fd : H0 d = none
  fq : H0 qa = none
  dd : H' d = some (.dK (dictW L))
  qq : H' qa = some (.lst (L.map fun n => V.int n.st))
  wl : ∀ n ∈ L, H' n.wa = some (.lst (n.wd.map V.int)) ∧ n.wa ≠ qa
  wf : ∀ n ∈ L, H0 n.wa = none
section
variable {H0 H' H2 : Hp} {d qa : Addr} {L : List Nb}
theorem WB.on (B : WB H0 H' d qa L) (s : Same H' H2) : WB H0 H2 d qa L :=
  ⟨B.same.trans s, B.fd, B.fq, s _ _ B.dd, s _ _ B.qq, fun n hn => ⟨s _ _ (B.wl n hn).1, (B.wl n hn).2⟩, B.wf⟩
theorem WB.push (B : WB H0 H' d qa L) {n : Nb} (hw : H' n.wa = some (.lst (n.wd.map V.int))) (nq : n.wa ≠ qa) (nf : H0 n.wa = none) :
    WB H0 (upd (upd H' d (.dK (dictW (L ++ [n])))) qa (.lst ((L ++ [n]).map fun n => V.int n.st))) d qa (L ++ [n]) := by
  have dq : d ≠ qa := fun z => by
    have := B.dd
    rw [z, B.qq] at this
    cases this
  refine ⟨same_set (same_set B.same B.fd) B.fq, B.fd, B.fq, by rw [upd_ne dq, upd_same], upd_same, fun m hm => ?_, fun m hm => ?_⟩
  · have go : ∀ m : Nb, H' m.wa = some (.lst (m.wd.map V.int)) ∧ m.wa ≠ qa → upd (upd H' d (.dK (dictW (L ++ [n])))) qa (.lst ((L ++ [n]).map fun n => V.int n.st)) m.wa = some (.lst (m.wd.map V.int)) ∧ m.wa ≠ qa := fun m ⟨h1, h2⟩ => by
      have md : m.wa ≠ d := fun z => by
        rw [z, B.dd] at h1
        cases h1
      exact ⟨by rw [upd_ne h2, upd_ne md]; exact h1, h2⟩
    rcases List.mem_append.mp hm with z | z
    · exact go m (B.wl m z)
    · rw [List.mem_singleton.mp z]
      exact go n ⟨hw, nq⟩
  · rcases List.mem_append.mp hm with z | z
    · exact B.wf m z
    · rw [List.mem_singleton.mp z]
      exact nf
end
/-- what stands for the way to a state -/
def WayV (H0 H : Hp) (M : Mach) (x : Nat) (v : V) : Prop := (wayW M (x : Int) = none ∧ v = .non) ∨ ∃ w r, wayW M (x : Int) = some w ∧ v = .ref r ∧ H0 r = none ∧ H r = some (.lst (w.map V.int))
structure Ways (H0 H : Hp) (p : Addr) (M : Mach) (vs : List V) : Prop where
  fr : H0 p = none
  at_ : H p = some (.lst vs)
  len : vs.length = M.rows.length
  val : ∀ x, x < M.rows.length → ∃ v, vs[x]? = some v ∧ WayV H0 H M x v
theorem Ways.same {H0 H H' : Hp} {p : Addr} {M : Mach} {vs : List V} (k : Ways H0 H p M vs) (s : Same H H') : Ways H0 H' p M vs :=
  ⟨k.fr, s _ _ k.at_, k.len, fun x hx => by
    obtain ⟨v, e, h | ⟨w, r, h1, h2, h3, h4⟩⟩ := k.val x hx
    · exact ⟨v, e, .inl h⟩
    · exact ⟨v, e, .inr ⟨w, r, h1, h2, h3, s _ _ h4⟩⟩⟩
end Mz

set_option Elab.async false
set_option linter.all false
set_option maxRecDepth 100000
set_option maxHeartbeats 4000000
/-! the outputs along a word; words that tell states from each other -/
namespace Mz
open PySem PySem.Spec PyProof.Rows L2
def outsTo (M : Mach) (s : Int) (w : List Int) (j : Nat) : List Int := (List.range (j + 1)).map fun i => M.out (M.run s (w.take i))
def outsA (M : Mach) (s : Int) (w : List Int) : List Int := outsTo M s w w.length
theorem outsTo_succ {M : Mach} {s : Int} {w : List Int} {j : Nat} : outsTo M s w (j + 1) = outsTo M s w j ++ [M.out (M.run s (w.take (j + 1)))] := by
  unfold outsTo
  rw [List.range_succ, List.map_append]
  rfl
theorem outs_pre (M : Mach) (s : Int) (w u : List Int) : outsA M s w = (outsA M s (w ++ u)).take (w.length + 1) := by
  unfold outsA outsTo
  rw [← List.map_take, List.take_range, List.length_append]
  rw [show min (w.length + 1) (w.length + u.length + 1) = w.length + 1 by omega]
  refine List.map_congr_left fun i hi => ?_
  have := List.mem_range.mp hi
  rw [List.take_append_of_le_length (by omega)]
theorem outs_last (M : Mach) (s : Int) (w : List Int) : (outsA M s w)[w.length]? = some (M.out (M.run s w)) := by
  unfold outsA outsTo
  rw [List.getElem?_map, List.getElem?_range (by omega)]
  show some (M.out (M.run s (w.take w.length))) = _
  rw [List.take_length]
theorem outs_len (M : Mach) (s : Int) (w : List Int) : (outsA M s w).length = w.length + 1 := by
  unfold outsA outsTo
  rw [List.length_map, List.length_range]
theorem run_app (M : Mach) (s : Int) (w u : List Int) : M.run s (w ++ u) = M.run (M.run s w) u := by
  unfold Mach.run
  rw [List.foldl_append]
theorem outs_nil {M : Mach} {s : Int} : outsA M s [] = [M.out s] := rfl
theorem outs_at {M : Mach} {s : Int} {w : List Int} {i : Nat} (h : i ≤ w.length) : (outsA M s w)[i]? = some (M.out (M.run s (w.take i))) := by
  unfold outsA outsTo
  rw [List.getElem?_map, List.getElem?_range (by omega)]
  rfl
/-- the same outputs along: the same output behind each beginning -/
theorem outs_eq {M N : Mach} {s t : Int} {w : List Int} : outsA M s w = outsA N t w ↔ ∀ i, i ≤ w.length → M.out (M.run s (w.take i)) = N.out (N.run t (w.take i)) := by
  constructor
  · intro h i hi
    have h1 := outs_at (M := M) (s := s) hi
    rw [h, outs_at hi] at h1
    exact (Option.some.inj h1).symm
  · intro h
    unfold outsA outsTo
    refine List.map_congr_left fun i hi => h i ?_
    have := List.mem_range.mp hi
    omega
theorem part_outs {M : Mach} {s t : Int} {u : List Int} (p : Part M M (s, t) u) : outsA M s u ≠ outsA M t u := fun e => by
  have h := outs_eq.mp e u.length (Nat.le_refl _)
  rw [List.take_length] at h
  have b := p.bad
  unfold Bad at b
  rw [runP_pair] at b
  exact b h
/-- alike along all words of a list -/
def AL (M : Mach) (ws : List (List Int)) (s t : Nat) : Prop := ∀ w ∈ ws, outsA M s w = outsA M t w
theorem eqv_AL (M : Mach) (n : Nat) (ws : List (List Int)) : Eqv n (AL M ws) := ⟨fun x w _ => rfl, fun x y h w hw => (h w hw).symm, fun x y z h1 h2 w hw => (h1 w hw).trans (h2 w hw)⟩
theorem AL_snoc {M : Mach} {ws : List (List Int)} {u : List Int} {s t : Nat} : AL M (ws ++ [u]) s t ↔ AL M ws s t ∧ outsA M s u = outsA M t u := by
  constructor
  · intro h
    exact ⟨fun w hw => h w (List.mem_append_left _ hw), h u (List.mem_append_right _ List.mem_cons_self)⟩
  · rintro ⟨h1, h2⟩ w hw
    rcases List.mem_append.mp hw with z | z
    · exact h1 w z
    · rw [List.mem_singleton.mp z]
      exact h2
/-- one letter less than the states: the empty word parts two kinds already -/
theorem part_short2 {M : Mach} (g : Good M) {p : Pr} (hp : InP M M p) {u : List Int} (h : Part M M p u) : u.length + 2 ≤ M.rows.length := by
  have k : Kin M M := ⟨g, g, rfl⟩
  have n1 := g.s1
  refine fine_few (n := M.rows.length) (d := u.length + 1) (R := fun t i j => ∀ v, Lt M.ls v → v.length < t → M.out (M.run i v) = M.out (M.run j v)) (by omega) (fun t => ⟨fun x v _ _ => rfl, fun x y h v a b => (h v a b).symm, fun x y z h1 h2 v a b => (h1 v a b).trans (h2 v a b)⟩) (fun t x y h v a b => h v a (by omega)) (fun e he => ?_)
  obtain ⟨q, hq, ⟨⟨v, hv, lv, bv⟩, no⟩⟩ := isd_all k hp (part_isd k h) e (by omega)
  have q1 := hq.1
  have q2 := hq.2
  have a1 := q1.1
  have a2 := q1.2
  have b1 := q2.1
  have b2 := q2.2
  refine ⟨q.1.toNat, q.2.toNat, by omega, by omega, fun w hw lw => ?_, fun z => ?_⟩
  · rw [show ((q.1.toNat : Nat) : Int) = q.1 by omega, show ((q.2.toNat : Nat) : Int) = q.2 by omega]
    refine Classical.byContradiction fun n => no w.length lw ⟨w, hw, Nat.le_refl _, ?_⟩
    unfold Bad
    rw [runP_pair]
    exact n
  · have := z v hv (by omega)
    rw [show ((q.1.toNat : Nat) : Int) = q.1 by omega, show ((q.2.toNat : Nat) : Int) = q.2 by omega] at this
    unfold Bad at bv
    rw [runP_pair] at bv
    exact bv this
/-- words so far, and the classes that they tell -/
structure Tells (L : Mach) (ws : List (List Int)) (G : List Int) : Prop where
  nil : [] ∈ ws
  ok : ∀ w ∈ ws, Lt L.ls w ∧ (w = [] ∨ w.length + 2 ≤ L.rows.length)
  nd : ws.Nodup
  rep : Rep (AL L ws) L.rows.length G
  few : ws.length = 1 ∨ ws.length + 1 ≤ cnt L.rows.length (AL L ws)
theorem Tells.cnt2 {L : Mach} {ws : List (List Int)} {G : List Int} (t : Tells L ws G) (g : Good L) {p : Pr} (hp : InP L L p) {u : List Int} (h : Part L L p u) : 2 ≤ cnt L.rows.length (AL L ws) := by
  have n1 := g.s1
  have e1 := cnt_pos (n := L.rows.length) (fun _ _ => True) (by omega)
  have s1 := g.runs hp.1 h.lt
  have s2 := g.runs hp.2 h.lt
  have e2 := cnt_lt (n := L.rows.length) (R := fun _ _ => True) (S := AL L ws) ⟨fun _ => trivial, fun _ _ _ => trivial, fun _ _ _ _ _ => trivial⟩ (eqv_AL L _ ws) (fun _ _ _ => trivial)
    ⟨(L.run p.1 u).toNat, (L.run p.2 u).toNat, by have := s1.1; have := s1.2; omega, by have := s2.1; have := s2.2; omega, trivial, fun z => ?_⟩
  · omega
  · have := z [] t.nil
    rw [outs_nil, outs_nil, show (((L.run p.1 u).toNat : Nat) : Int) = L.run p.1 u by have := s1.1; omega, show (((L.run p.2 u).toNat : Nat) : Int) = L.run p.2 u by have := s2.1; omega] at this
    injection this with this
    have b := h.bad
    unfold Bad at b
    rw [runP_pair] at b
    exact b this
theorem Tells.step {L : Mach} {ws : List (List Int)} {G G' : List Int} (t : Tells L ws G) (g : Good L) {i j : Nat} (hi : i < L.rows.length) (hj : j < L.rows.length) (al : AL L ws i j) {u : List Int} (h : Part L L ((i : Int), (j : Int)) u) (r : Rep (AL L (ws ++ [u])) L.rows.length G') : Tells L (ws ++ [u]) G' ∧ cnt L.rows.length (AL L ws) < cnt L.rows.length (AL L (ws ++ [u])) := by
  have ip : InP L L ((i : Int), (j : Int)) := ⟨⟨by show (0 : Int) ≤ i; omega, by show (i : Int) < _; omega⟩, ⟨by show (0 : Int) ≤ j; omega, by show (j : Int) < _; omega⟩⟩
  have ne := part_outs h
  have nin : u ∉ ws := fun z => ne (al u z)
  have c2 := t.cnt2 g ip h
  have lt := cnt_lt (n := L.rows.length) (eqv_AL L _ ws) (eqv_AL L _ (ws ++ [u])) (fun x y z => (AL_snoc.mp z).1) ⟨i, j, hi, hj, al, fun z => ne (AL_snoc.mp z).2⟩
  refine ⟨⟨List.mem_append_left _ t.nil, fun w hw => ?_, ?_, r, .inr ?_⟩, lt⟩
  · rcases List.mem_append.mp hw with z | z
    · exact t.ok w z
    · rw [List.mem_singleton.mp z]
      exact ⟨h.lt, .inr (part_short2 g ip h)⟩
  · rw [List.nodup_append]
    refine ⟨t.nd, by simp, fun a ha b hb => ?_⟩
    rw [List.mem_singleton.mp hb]
    exact fun z => nin (z ▸ ha)
  · rw [List.length_append]
    show ws.length + 1 + 1 ≤ _
    rcases t.few with z | z <;> omega
/-- how many words, at the end -/
theorem Tells.many {L : Mach} {ws : List (List Int)} {G : List Int} (t : Tells L ws G) : 1 ≤ ws.length ∧ ws.length ≤ max 1 (L.rows.length - 1) := by
  have := cnt_le L.rows.length (AL L ws)
  have h : 0 < ws.length := List.length_pos_of_mem t.nil
  rcases t.few with z | z <;> omega
end Mz

set_option Elab.async false
set_option linter.all false
set_option maxRecDepth 100000
set_option maxHeartbeats 4000000
/-! sorted(.., key=f): f a def of the program, its keys data of any depth; over a list or a dict with tuples as keys -/
namespace Mz
open PySem PySem.Spec PyProof.Rows L2 PySem.W PySem.Calls
/-- the order of the items by their keys -/
def byKeys (xs : List V) (kz : List PyData) : List V := ((xs.zip kz).mergeSort (dataLe false Prod.snd)).map Prod.fst
/-- what is asked once all keys are made -/
def SortEnd (K : PySem.W.Frag) (xs : List V) (W : Nat → List V → Hp → Prop) (Q : VK) : Prop :=
  ∀ ks H, W xs.length ks H → ∃ kz : List PyData, DpAll K H ks kz ∧ AllAlike kz ∧ PySem.W.Sortable kz ∧ (∀ d ∈ kz, d.depth ≤ 8) ∧ ∀ p, H p = none → Q (.ref p) (upd H p (.lst (byKeys xs kz)))
section
variable {X : Cx} {k : Nat} {f : Addr} {fd : FuncData} {ps : List Str} {sp : Sp}
theorem run_fnA {A : Around} {pins : List (Addr × Obj)} {σ : L2.St} {H : Hp} {s : Shared} {Q : VK} {us : List Value} {vs : List V} {EE : Value → Shared → Prop} (F : FnOk X.prog X.w X.K X.mg X.base C8.CX0 k f fd ps sp) (hr : Room k A) (hA : A.frames = some X.stack) (hb : Binds X.K fd ps [])
    (I : Inv X pins σ H s) (r : Vals vs us) (h : sp vs H Q C8.E0) : wpAny (model X.prog X.w) A (call (.ref f) us) (EP X pins σ Q) EE s := by
  have hl : (us ++ []).length = ps.length := by rw [List.append_nil, ← r.length]; exact F.len _ _ _ _ h
  have e0 : Env0 X.prog X.w X.K X.mg X.base A X.stack s H := ⟨hA, I.env0.mod, I.env0.bs, I.env0.bsz, I.env0.funs, I.env0.frf, I.env0.hok, I.env0.bare⟩
  have hb' := hb s us I.kIn hl
  rw [List.append_nil] at hb'
  refine wpAny_call (codeAny_mono (F.run A X.stack s H ⟨us, []⟩ us vs Q C8.E0 hr e0 hb' r h) fun r s' hq => ?_)
  cases r with
  | error e => exact (show False from hq).elim
  | ok fl =>
    cases fl with
    | ret u => exact I.after hq
    | next => exact False.elim hq
    | brk => exact False.elim hq
    | cont => exact False.elim hq
theorem vals_at2 : ∀ {xs : List V} {us : List Value}, Vals xs us → ∀ {j : Nat} {x : V} {u : Value}, xs[j]? = some x → us[j]? = some u → RelV x u
  | [], _, r, _, _, _, h, _ => by simp at h
  | x :: xs, _, r, 0, _, _, h, g => by
    cases r with
    | cons h1 h2 =>
      cases h
      cases g
      exact h1
  | x :: xs, _, r, j + 1, _, _, h, g => by
    cases r with
    | cons h1 h2 => exact vals_at2 h2 (j := j) (by simpa using h) (by simpa using g)
theorem dpAll_len {K : PySem.W.Frag} {H : Hp} : ∀ {ks : List V} {kz : List PyData}, DpAll K H ks kz → ks.length = kz.length
  | [], [], _ => rfl
  | _ :: _, _ :: _, .cons _ h => congrArg (· + 1) (dpAll_len h)
theorem readsAll_is {h : Heap} : ∀ {ds : List PyData} {vs : List Value} {as : List Addr}, ReadsAll h vs ds as → EachIs (fun v d => ∃ as, Reads h v d as) vs ds
  | [], _, _, r => by
    cases r
    exact .nil
  | d :: ds, _, _, r => by
    cases r with
    | cons h1 h2 => exact .cons ⟨_, h1⟩ (readsAll_is h2)
theorem vals_zip : ∀ {xs : List V} {vs : List Value} {kz : List PyData}, Vals xs vs → xs.length = kz.length → EachIs (fun v (x : V × PyData) => RelV x.1 v) vs (xs.zip kz)
  | [], _, _, r, _ => by
    cases r
    exact .nil
  | x :: xs, _, [], _, h => by simp at h
  | x :: xs, _, d :: kz, r, h => by
    cases r with
    | cons h1 h2 => exact .cons h1 (vals_zip h2 (by simpa using h))
theorem each_vals : ∀ {out : List Value} {zs : List (V × PyData)}, EachIs (fun v (x : V × PyData) => RelV x.1 v) out zs → Vals (zs.map Prod.fst) out
  | _, _, .nil => .nil
  | _, _, .cons h t => .cons h (each_vals t)
theorem map_snd_zip : ∀ {xs : List V} {kz : List PyData}, xs.length = kz.length → (xs.zip kz).map Prod.snd = kz
  | [], [], _ => rfl
  | x :: xs, d :: kz, h => by
    rw [List.zip_cons_cons, List.map_cons, map_snd_zip (by simpa using h)]
  | [], _ :: _, h => by simp at h
  | _ :: _, [], h => by simp at h
/-- the keys are made, one after another; then the list's own object gets the items in order -/
theorem keyI_rest {A : Around} {pins : List (Addr × Obj)} {σ : L2.St} {H0 : Hp} {s : Shared} {Q : VK} {a kS : Addr} {e1 : Nat} {vs : List Value} {xs : List V} {W : Nat → List V → Hp → Prop} {P : PySem.Fin → Shared → Prop} {EE : Value → Shared → Prop}
    (F : FnOk X.prog X.w X.K X.mg X.base C8.CX0 k f fd ps sp) (hr : Room k A) (hA : A.frames = some X.stack) (hb : Binds X.K fd ps []) (I : Inv X pins σ H0 s) (nk : s.heap.get? kS = some (seqObj "list" #[] 0)) (na : s.heap.get? a = some (seqObj "list" #[] e1)) (hka : kS ≠ a)
    (fk : FpOk X pins H0 kS) (fa : FpOk X pins H0 a) (rv : Vals xs vs) (hZ : vs.length ≤ sizeLine) (w0 : W 0 [] H0)
    (turn : ∀ (i : Nat) (x : V) (ks : List V) (H : Hp), xs[i]? = some x → W i ks H → sp [x] H (fun key H' => W (i + 1) (ks ++ [key]) H') C8.E0) (fin : SortEnd X.K xs W Q)
    (hP : ∀ s', EP X pins σ Q (.ref a) s' → P (.done (.ret .none)) s') : wpAny (model X.prog X.w) A (ksk_rest a (.ref f) false vs.toArray e1 (.ref kS)) P EE s := by
  have hlen : xs.length = vs.length := rv.length
  have pinned : ∀ {H : Hp} {h : Heap} {g : Nat} {s' : Shared} {kA : Array Value} {e : Nat}, Inv X pins σ H s' → s'.heap.get? kS = some (seqObj "list" kA e) → s'.heap.get? a = some (seqObj "list" #[] e1) → H kS = none → H a = none → Inv X (pins ++ [(kS, seqObj "list" kA e), (a, seqObj "list" #[] e1)]) σ H s' := fun J h1 h2 h3 h4 =>
    J.pins_of fun p hp => by
      rcases List.mem_append.mp hp with z | z
      · exact J.pin p (List.mem_append_right _ z)
      · rcases List.mem_cons.mp z with z | z
        · subst z
          exact ⟨h1, h3, fk.2.1, fk.2.2.1, fun v z => by cases z⟩
        · rcases List.mem_cons.mp z with z | z
          · subst z
            exact ⟨h2, h4, fa.2.1, fa.2.2.1, fun v z => by cases z⟩
          · cases z
  unfold ksk_rest
  refine wpAny_bind (wpAny_rule ?_)
  first
    | rw [List.forIn_toArray]
    | (rw [← Array.forIn_toList]; simp only [List.toList_toArray])
    | rw [← Array.forIn_toList]
  refine wpAny_bind (ksk_fold (fun i s' => ∃ H kA e ks, Inv X (pins ++ [(kS, seqObj "list" kA e), (a, seqObj "list" #[] e1)]) σ H s' ∧ Vals ks kA.toList ∧ ks.length = i ∧ W i ks H) vs 0 s
    ⟨H0, #[], 0, [], pinned (h := s.heap) (g := 0) I nk na fk.1 fa.1, .nil, rfl, w0⟩ ?step ?done)
  case step =>
    rintro j v s' hv ⟨H, kA, e, ks, J, rk, lk, wj⟩
    rw [Nat.zero_add] at wj lk ⊢
    have hj : j < vs.length := (List.getElem?_eq_some_iff.mp hv).1
    obtain ⟨x, hx⟩ : ∃ x, xs[j]? = some x := ⟨_, List.getElem?_eq_getElem (by omega)⟩
    have rx : RelV x v := vals_at2 rv hx hv
    refine wpAny_bind (wpAny_attempt (wpAny_mono (run_fnA (EE := fun _ _ => False) F hr hA hb J (.cons rx .nil) (turn j x ks H hx wj)) (fun u s2 h2 => ?_) fun _ _ hF => hF.elim))
    obtain ⟨key, H2, J2, r2, w2⟩ := h2
    have pk := J2.pin (kS, seqObj "list" kA e) (List.mem_append_right _ (List.mem_append_right _ List.mem_cons_self))
    have pa := J2.pin (a, seqObj "list" #[] e1) (List.mem_append_right _ (List.mem_append_right _ (List.mem_cons_of_mem _ List.mem_cons_self)))
    have J3 := J2.unpinned
    have nk2 : s2.heap.get? kS = some (seqObj "list" kA e) := pk.1
    have na2 : s2.heap.get? a = some (seqObj "list" #[] e1) := pa.1
    have s1 := Heap.SameBut.update s2.heap kS (Obj.mapSeq (·.push u))
    obtain ⟨c2, hc2⟩ : ∃ c2, (s2.heap.update kS (Obj.mapSeq (·.push u))).get? kS = some (seqObj "list" (kA.push u) c2) := ⟨_, get?_update_seq nk2 (·.push u)⟩
    have hz : kA.size ≤ vs.length := by
      have h1 : ks.length = kA.toList.length := rk.length
      have h2 : kA.toList.length = kA.size := Array.length_toList
      rw [← h2, ← h1, lk]
      exact Nat.le_of_lt hj
    try dsimp only
    refine wpAny_bind (listUpdate_at nk2 rfl ?_ (Nat.le_trans hz hZ) (Nat.le_trans (Nat.le_of_eq (Array.size_push ..)) (Nat.succ_le_succ (Nat.le_trans hz hZ))))
    have J4 : Inv X pins σ H2 { s2 with heap := s2.heap.update kS (Obj.mapSeq (·.push u)) } := J3.turned (it := kS) (t' := s2.toks) (fun b o hb e => (s1.2 b hb).trans e) pk.2.1 fk.2.1 fk.2.2.2.1 fk.2.2.2.2.1 fk.2.2.2.2.2
    refine wpAny_pure ⟨rfl, H2, kA.push u, c2, ks ++ [key], pinned (h := s.heap) (g := 0) J4 hc2 ((s1.2 a hka.symm).trans na2) pk.2.1 pa.2.1, ?_, by rw [List.length_append, lk]; rfl, w2⟩
    rw [Array.toList_push]
    exact rk.append (.cons r2 .nil)
  case done =>
    rintro s' ⟨H, kA, e, ks, J, rk, lk, wj⟩
    rw [Nat.zero_add, ← hlen] at wj lk
    obtain ⟨kz, dk, hal, hsk, hd, q⟩ := fin ks H wj
    have lz : ks.length = kz.length := dpAll_len dk
    have pk := J.pin (kS, seqObj "list" kA e) (List.mem_append_right _ (List.mem_append_right _ List.mem_cons_self))
    have pa := J.pin (a, seqObj "list" #[] e1) (List.mem_append_right _ (List.mem_append_right _ (List.mem_cons_of_mem _ List.mem_cons_self)))
    have J3 := J.unpinned
    have nk2 : s'.heap.get? kS = some (seqObj "list" kA e) := pk.1
    have na2 : s'.heap.get? a = some (seqObj "list" #[] e1) := pa.1
    have nHk : H kS = none := pk.2.1
    have nHa : H a = none := pa.2.1
    obtain ⟨as, ra⟩ := Dp.readsAll J3 kz ks kA.toList dk rk
    have hk := readsAll_is ra
    have hsz : kA.size = vs.length := by
      have h1 := hk.length
      rw [Array.length_toList] at h1
      omega
    refine wpAny_bind (listItems_at nk2 rfl ?_)
    refine keyH_end (κ := dataKind s'.heap kz) (h₁ := hideAll s'.heap [kS]) (fun b o hb h => of_hideAll [kS] h) (hideAll_none [kS] (by simp)) nk2 na2 hka (SortsAt.data hk hal hsk fun d h => ?_) hsz hZ fun h3 tk3 c k3 n3 => hP _ ?_
    · have h1 := hd d h
      have h2 := hr.un
      omega
    · have ko : KeyedOut false kz vs (sortVals (dataKind s'.heap kz) false kA.toList vs) := ⟨s'.heap, kA.toList, hal, rfl, hk⟩
      have ev := keyedOut_each (R := fun v (x : V × PyData) => RelV x.1 v) (bs := xs.zip kz) Prod.snd (by rw [map_snd_zip (by omega)]; exact ko) (vals_zip rv (by omega))
      have vo : Vals (byKeys xs kz) (sortVals (dataKind s'.heap kz) false kA.toList vs) := each_vals ev
      have hlo : (byKeys xs kz).length ≤ sizeLine := by
        unfold byKeys
        rw [List.length_map, List.length_mergeSort, List.length_zip]
        omega
      have kp : ∀ b o, b ≠ kS → b ≠ a → s'.heap.get? b = some o → h3.get? b = some o := fun b o h1 h2 h => k3 b o h2 (hideAll_get [kS] h (by simpa using h1))
      have nb : ∀ b u, H b = some u → b ≠ a := fun b u h z => by
        rw [z, nHa] at h
        cases h
      have nbk : ∀ b u, H b = some u → b ≠ kS := fun b u h z => by
        rw [z, nHk] at h
        cases h
      have un : Un (frs X.stack) [kS, a] H (upd H a (.lst (byKeys xs kz))) s'.heap h3 := by
        refine ⟨fun b o h1 h2 h3 h4 => kp b o (fun z => h4 (by simp [z])) (fun z => h4 (by simp [z])) h1, fun b o h1 h2 h3 h4 => ⟨o.slots, kp b o (fun z => h4 (by simp [z])) (fun z => h4 (by simp [z])) h1⟩,
          fun b o h1 h2 h4 => by rw [upd_ne (fun z => h4 (by simp [z]))]; exact h2, fun b o h1 h4 => ⟨o, kp b o (fun z => h4 (by simp [z])) (fun z => h4 (by simp [z])) h1⟩,
          fun b ys h => by rw [upd_ne (nb b _ h)]; exact h, fun b o u h => by rw [upd_ne (nb b _ h)]; exact h, fun b ps h => ⟨#[], by rw [upd_ne (nb b _ h), h]; simp⟩⟩
      have hok : HOk X.prog X.w (upd H a (.lst (byKeys xs kz))) h3 := by
        intro b u h
        by_cases hb : b = a
        · rw [hb, upd_same] at h
          cases h
          rw [hb]
          exact ⟨hlo, _, c, vo, n3⟩
        · rw [upd_ne hb] at h
          refine (J3.hok b u h).stay (fun d v hd' h' => kp d v ?_ ?_ h') (fun d h' => ?_) fun d ys h' => ?_
          · rcases hd' with z | z
            · rw [z]; exact nbk b u h
            · exact nbk d _ z
          · rcases hd' with z | z
            · rw [z]; exact hb
            · exact nb d _ z
          · rw [upd_ne (nb d _ h')]; exact h'
          · rw [upd_ne (nb d _ h')]; exact h'
      have J5 : Inv X pins σ (upd H a (.lst (byKeys xs kz))) { s' with heap := h3, toks := tk3 } := J3.call (g' := s'.gens) (d' := s'.drawn) (ch := [kS, a]) un hok J3.bare fun b hb => by
        rcases List.mem_cons.mp hb with z | z
        · subst z
          exact ⟨fk.2.2.2.1, fk.2.1, fk.2.2.2.2.1, fk.2.2.2.2.2⟩
        · have z : b = a := by simpa using z
          subst z
          exact ⟨fa.2.2.2.1, fa.2.1, fa.2.2.2.2.1, fa.2.2.2.2.2⟩
      exact ⟨.ref a, _, J5, rfl, q a nHa⟩
/-- sorted(l, key=f), l collected to xs -/
theorem sortk_run {pins : List (Addr × Obj)} {σ : L2.St} {H : Hp} {s : Shared} {Q : VK} {l : Value} {vs : List Value} {xs : List V} {W : Nat → List V → Hp → Prop}
    (F : FnOk X.prog X.w X.K X.mg X.base C8.CX0 k f fd ps sp) (hr : Room (k + 2) X.A) (hb : Binds X.K fd ps []) (I : Inv X pins σ H s) (rv : Vals xs vs) (hZ : vs.length ≤ sizeLine)
    (col : ∀ (R : List Value → Shared → Prop) (EE : Value → Shared → Prop), (∀ h' tk, (∀ b o, s.heap.get? b = some o → h'.get? b = some o) → R vs { s with heap := h', toks := tk }) → wpAny (model X.prog X.w) X.A.in1 (collect l) R EE s) (w0 : W 0 [] H)
    (turn : ∀ (i : Nat) (x : V) (ks : List V) (H : Hp), xs[i]? = some x → W i ks H → sp [x] H (fun key H' => W (i + 1) (ks ++ [key]) H') C8.E0) (fin : SortEnd X.K xs W Q) :
    wpAny (model X.prog X.w) X.A (call (.builtin "sorted") [l] [(Str.ofString "key", .ref f)]) (EP X pins σ Q) X.xe s := by
  refine call_function_entry_kw kind_sorted plain_sorted entry_sorted (ksk_s1 _ _) ?_
  unfold Builtin.«sorted»
  refine wpAny_bind (m := checkCount "sorted" 1 1 _) (wpAny_pure ?_)
  refine wpAny_bind (col _ _ fun h1 tk1 kp1 => ?_)
  have I1 : Inv X pins σ H { s with heap := h1, toks := tk1 } := I.kept kp1
  refine wpAny_bind (wpAny_newList ?_ hZ)
  have I2 : Inv X pins σ H { s with heap := h1.push (seqObj "list" vs.toArray 0), toks := tk1 } := I1.kept (t' := tk1) fun b u e => Heap.get?_push_of_some _ e
  have ho : (h1.push (seqObj "list" vs.toArray 0)).get? h1.objs.size = some (seqObj "list" vs.toArray 0) := Heap.get?_push_size _ rfl
  have ha : h1.objs.size < (h1.push (seqObj "list" vs.toArray 0)).objs.size := Heap.lt_size ho
  refine wpAny_bind (wpAny_holding (wpAny_call_entry_kw slot_list_sort ⟨_, ho, rfl⟩ entry_list_sort ?_ (ksk_l1 _ _)))
  rw [ksk_t1]
  obtain ⟨e1, ho1⟩ : ∃ e1, ((h1.push (seqObj "list" vs.toArray 0)).update h1.objs.size (Obj.mapSeq fun _ => (#[] : Array Value))).get? h1.objs.size = some (seqObj "list" #[] e1) := ⟨_, get?_update_seq ho fun _ => #[]⟩
  have hkS : (((h1.push (seqObj "list" vs.toArray 0)).update h1.objs.size (Obj.mapSeq fun _ => (#[] : Array Value))).push (seqObj "tuple" vs.toArray 0)).objs.size = h1.objs.size + 1 + 1 := by rw [size_push', Heap.size_update, size_push']
  unfold ksk_tree
  refine wpAny_bind (listItems_at ho rfl ?_)
  refine wpAny_bind (listUpdate_at ho rfl ?_ (by rw [List.size_toArray]; exact hZ) (Nat.zero_le _))
  refine wpAny_bind (seqEpoch_at ho1 rfl ?_)
  refine wpAny_bind (wpAny_newTuple ?_ (by show vs.length ≤ _; exact hZ))
  refine wpAny_bind (wpAny_newList ?_ (Nat.zero_le _))
  refine wpAny_holding ?_
  have kp : ∀ b o, h1.get? b = some o → ((((h1.push (seqObj "list" vs.toArray 0)).update h1.objs.size (Obj.mapSeq fun _ => (#[] : Array Value))).push (seqObj "tuple" vs.toArray 0)).push (seqObj "list" #[] 0)).get? b = some o := fun b o e =>
    Heap.get?_push_of_some _ (Heap.get?_push_of_some _ (((Heap.SameBut.update _ h1.objs.size (Obj.mapSeq fun _ => (#[] : Array Value))).2 b (Nat.ne_of_lt (Heap.lt_size e))).trans (Heap.get?_push_of_some _ e)))
  have I3 : Inv X pins σ H { s with heap := (((h1.push (seqObj "list" vs.toArray 0)).update h1.objs.size (Obj.mapSeq fun _ => (#[] : Array Value))).push (seqObj "tuple" vs.toArray 0)).push (seqObj "list" #[] 0), toks := tk1 } := I1.kept (t' := tk1) kp
  have hr2 : Room k X.A.in1.in1 := Room.in1 (Room.in1 hr)
  have hne : (((h1.push (seqObj "list" vs.toArray 0)).update h1.objs.size (Obj.mapSeq fun _ => (#[] : Array Value))).push (seqObj "tuple" vs.toArray 0)).objs.size ≠ h1.objs.size := by rw [hkS]; omega
  refine keyI_rest (A := X.A.in1.in1) F hr2 I.ok.frames hb I3 (Heap.get?_push_size _ rfl) (Heap.get?_push_of_some _ (Heap.get?_push_of_some _ ho1)) hne
    (I1.fpOk (by rw [hkS]; show h1.objs.size ≤ _; omega) (I1.hok.fresh (by rw [hkS]; show h1.objs.size ≤ _; omega))) (I1.fpOk (Nat.le_refl _) (I1.hok.fresh (Nat.le_refl _))) rv hZ w0 turn fin fun s' hq => ⟨.none, rfl, ?_⟩
  exact wpAny_pure ⟨_, rfl, hq⟩
/-- over a list -/
def rSortK (K : PySem.W.Frag) (f : Addr) (sp : Sp) : List V → List V → Hp → VK → Prop := fun vs zs H Q => ∃ (l : Addr) (xs : List V), vs = [.ref l] ∧ zs = [.ref f] ∧ SqL K H l xs ∧
  ∃ W : Nat → List V → Hp → Prop, W 0 [] H ∧ (∀ (i : Nat) (x : V) (ks : List V) (H : Hp), xs[i]? = some x → W i ks H → sp [x] H (fun key H' => W (i + 1) (ks ++ [key]) H') C8.E0) ∧ SortEnd K xs W Q
theorem cr_sortK (F : FnOk X.prog X.w X.K X.mg X.base C8.CX0 k f fd ps sp) (hr : Room (k + 2) X.A) (hb : Binds X.K fd ps []) : CallRK X (.builtin "sorted") [Str.ofString "key"] (rSortK X.K f sp) := by
  intro pins s σ H vs zs us ws Q I r rz h
  obtain ⟨l, xs, rfl, rfl, hs, W, w0, turn, fin⟩ := h
  obtain rfl := Vals.ref1 r
  obtain ⟨w1, rfl, e1⟩ := vals1 rz
  obtain rfl : w1 = Value.ref f := e1
  obtain ⟨its, rv, hl, hz⟩ := I.list hs
  have hZ : its.length ≤ sizeLine := by rw [← rv.length]; exact hz
  refine sortk_run F hr hb I rv hZ (fun R EE hR => collect_list hl.isList (hR _ _ fun b o e => ?_) hZ) w0 turn fin
  exact ((Heap.SameBut.update _ s.heap.objs.size (Obj.mapSeq (· ++ its.toArray))).2 b (Nat.ne_of_lt (Heap.lt_size e))).trans (Heap.get?_push_of_some _ e)
/-- over a dict whose keys are tuples -/
def rSortKD (K : PySem.W.Frag) (f : Addr) (sp : Sp) : List V → List V → Hp → VK → Prop := fun vs zs H Q => ∃ (d : Addr) (kvs : List (List Key × V)), vs = [.ref d] ∧ zs = [.ref f] ∧ Rd H d (.dT kvs) ∧
  ∀ bs : List Addr, IsKeys H kvs bs →
  ∃ W : Nat → List V → Hp → Prop, W 0 [] H ∧ (∀ (i : Nat) (x : V) (ks : List V) (H : Hp), (bs.map V.ref)[i]? = some x → W i ks H → sp [x] H (fun key H' => W (i + 1) (ks ++ [key]) H') C8.E0) ∧ SortEnd K (bs.map V.ref) W Q
theorem cr_sortKD (hc : X.calm = true) (F : FnOk X.prog X.w X.K X.mg X.base C8.CX0 k f fd ps sp) (hr : Room (k + 2) X.A) (hb : Binds X.K fd ps []) : CallRK X (.builtin "sorted") [Str.ofString "key"] (rSortKD X.K f sp) := by
  intro pins s σ H vs zs us ws Q I r rz h
  obtain ⟨d, kvs, rfl, rfl, hd, h⟩ := h
  obtain rfl := Vals.ref1 r
  obtain ⟨w1, rfl, e1⟩ := vals1 rz
  obtain rfl : w1 = Value.ref f := e1
  obtain ⟨z, hs, ks, pr, o, es, ep, ho, hx, hdt, he, hn⟩ := (show ObjOk X.prog X.w H s.heap d (.dT kvs) from hd.ok I.hok)
  have l1 : es.size = ks.length := size_of_entries he
  have l2 : kvs.length = ks.length := Paired.length pr
  obtain ⟨W, w0, turn, fin⟩ := h _ (isKeys_of pr)
  have rv : Vals ((ks.map fun x => x.2.1).map V.ref) ((ks.map fun x => x.2.1).map Value.ref) := vals_refs _
  have hZ : ((ks.map fun x => x.2.1).map Value.ref).length ≤ sizeLine := by rw [List.length_map, List.length_map]; omega
  refine sortk_run F hr hb I rv hZ (fun R EE hR => ?_) w0 turn fin
  refine kdu_collect (A := X.A.in1) (kdl_raw hs hx hdt) (I.ok.hd hc) ho (by omega) fun h' tk acc kp it => ?_
  have ea : acc.toList = (ks.map fun x => x.2.1).map Value.ref := by
    have hl : acc.toList.length = ks.length := by rw [Array.length_toList, it.1]; exact l1
    rw [List.map_map]
    apply List.ext_getElem?
    intro j
    rw [List.getElem?_map]
    cases hj : acc.toList[j]? with
    | none =>
      have h1 := List.getElem?_eq_none_iff.mp hj
      rw [List.getElem?_eq_none (by omega)]
      all_goals rfl
    | some v =>
      obtain ⟨en, hen, hv⟩ := it.2 j v (by rw [← Array.getElem?_toList]; exact hj)
      have qe := entry_at he j
      rw [hen] at qe
      cases hb : ks[j]? with
      | none =>
        rw [hb] at qe
        exact nomatch (show some en = none from qe)
      | some b =>
        rw [hb] at qe
        have e2 : en = entryOfKey (tupleKind (mixKind X.prog X.w)) b := Option.some.inj qe
        rw [hv, e2]
        all_goals rfl
  rw [ea]
  exact hR h' tk kp
end
end Mz

set_option Elab.async false
set_option linter.all false
set_option maxRecDepth 100000
set_option maxHeartbeats 4000000
/-! words sorted in the order of words -/
namespace Mz
open PySem PySem.Spec PyProof.Rows L2
/-- a >= b of data -/
def rGeD (K : PySem.W.Frag) : R2 := fun x y H Q => ∃ d e, Dp K H x d ∧ Dp K H y e ∧ W.alike d e = true ∧ d ≠ .none ∧ min d.depth e.depth ≤ 64 ∧ Q (.bl (!W.dataLt d e)) H
theorem op_geD {X : Cx} (hu : X.A.units + 64 < cLine) : OpR X (compareOp .GtE) (rGeD X.K) := by
  rintro pins s σ H x y v u Q I rx ry ⟨d, e, hd, he, al, hn, dep, q⟩
  obtain ⟨as, r1⟩ := Dp.reads I d x v hd rx
  obtain ⟨bs, r2⟩ := Dp.reads I e y u he ry
  exact PySem.W.ge_data r1 r2 al hn (by omega) ⟨.bl _, H, I, rfl, q⟩
theorem lex_tri : ∀ u v : List Int, u.length = v.length → HT.lexLt u v = false → HT.lexLt v u = false → u = v
  | [], [], _, _, _ => rfl
  | [], _ :: _, h, _, _ => by simp at h
  | _ :: _, [], h, _, _ => by simp at h
  | x :: u, y :: v, h, h1, h2 => by
    rw [HT.lexLt_cons] at h1 h2
    by_cases e : x = y
    · rw [if_pos e] at h1
      rw [if_pos e.symm] at h2
      rw [e, lex_tri u v (by simpa using h) h1 h2]
    · rw [if_neg e] at h1
      rw [if_neg (Ne.symm e)] at h2
      have := of_decide_eq_false h1
      have := of_decide_eq_false h2
      omega
theorem lex_irr : ∀ u : List Int, HT.lexLt u u = false
  | [] => rfl
  | x :: u => by rw [HT.lexLt_cons, if_pos rfl]; exact lex_irr u
theorem word_tri {u v : List Int} (h1 : wordLt u v = false) (h2 : wordLt v u = false) : u = v := by
  unfold wordLt at h1 h2
  by_cases e : u.length = v.length
  · rw [if_pos e] at h1
    rw [if_pos e.symm] at h2
    exact lex_tri u v e h1 h2
  · rw [if_neg e] at h1
    rw [if_neg (Ne.symm e)] at h2
    have := of_decide_eq_false h1
    have := of_decide_eq_false h2
    omega
theorem dataLt_lst (u v : List Int) (e : u.length = v.length) : PySem.W.dataLt (dLst u) (dLst v) = HT.lexLt u v := by
  show PySem.W.dataLt (.list _) (.list _) = _
  rw [PySem.W.dataLt_list]
  have := lex_ints u v [] e
  rw [List.append_nil, List.append_nil] at this
  exact this
/-- a tuple's word as a key -/
def wordT (ns : List Int) : PyData := .tuple [.int ns.length, .tuple (ns.map PyData.int)]
theorem alike_wordT (ns ms : List Int) : W.alike (wordT ns) (wordT ms) = true := by
  simp only [wordT, W.alike, W.alikeAll, Mz.alike_ints, Bool.and_true]
theorem dataLt_wordT (ns ms : List Int) : PySem.W.dataLt (wordT ns) (wordT ms) = wordLt ns ms := by
  unfold PySem.W.dataLt wordT wordLt
  simp only [PySem.W.keyToks, PySem.W.keyToksAll, List.cons_append, List.nil_append]
  rw [lex_eq]
  by_cases e : ns.length = ms.length
  · rw [if_pos e, e, lex_eq, lex_eq]
    exact lex_ints ns ms _ e
  · rw [if_neg e, lex_diff (by simpa using fun z => e (by omega))]
    show decide _ = decide _
    rw [decide_eq_decide]
    omega
theorem depth_wordD (ns : List Int) : (wordD ns).depth ≤ 8 := by
  have h := Mz.depth_ints ns
  simp [wordD, PyData.depth, PyData.depthAll]
  omega
theorem depth_wordT (ns : List Int) : (wordT ns).depth ≤ 8 := by
  have h := Mz.depth_ints ns
  simp [wordT, PyData.depth, PyData.depthAll]
  omega
section
variable {α : Type}
/-- items, each with its word, in the order of their words -/
theorem sortW (fv : α → V) {key : List Int → PyData} (hk : ∀ u v, PySem.W.dataLt (key u) (key v) = wordLt u v) (ts : List α) (ws : List (List Int)) (l : ts.length = ws.length) :
    ∃ zs : List (α × List Int), byKeys (ts.map fv) (ws.map key) = zs.map (fun z => fv z.1) ∧ zs.Perm (ts.zip ws) ∧ (zs.map Prod.snd).Pairwise (fun u v => wordLt v u = false) := by
  have e : (ts.map fv).zip (ws.map key) = (ts.zip ws).map (fun z => (fv z.1, key z.2)) := by
    rw [List.zip_map]
    rfl
  refine ⟨(ts.zip ws).mergeSort (fun p q => !wordLt q.2 p.2), ?_, List.mergeSort_perm _ _, ?_⟩
  · unfold byKeys
    rw [e, ← PySem.W.sort_maps (r := fun p q : α × List Int => !wordLt q.2 p.2) (s := PySem.W.dataLe false Prod.snd) (fun z : α × List Int => (fv z.1, key z.2)) (fun a _ b _ => ?_), List.map_map]
    · rfl
    · rw [PySem.W.dataLe_eq]
      show (!wordLt b.2 a.2) = (!PySem.W.dataLt (key b.2) (key a.2))
      rw [hk]
  · have h := PySem.W.sort_pairwise (PySem.W.sortLe_total (PyProof.Rows.listOrd itemOrd) false (fun z : α × List Int => PySem.W.keyToks (key z.2))) (ts.zip ws)
    have e2 : (ts.zip ws).mergeSort (fun p q => !wordLt q.2 p.2) = (ts.zip ws).mergeSort (PySem.W.sortLe (PyProof.Rows.listOrd itemOrd) false (fun z : α × List Int => PySem.W.keyToks (key z.2))) := PySem.W.sort_congr fun a _ b _ => by
      show (!wordLt b.2 a.2) = (!PySem.W.dataLt (key b.2) (key a.2))
      rw [hk]
    rw [e2, List.pairwise_map]
    refine h.imp fun {a b} q => ?_
    have q : (!PySem.W.dataLt (key b.2) (key a.2)) = true := q
    rw [hk] at q
    simpa using q
end
/-- strictly ascending -/
def Asc (ws : List (List Int)) : Prop := ws.Pairwise fun u v => wordLt u v = true
theorem asc_of {ws : List (List Int)} (h : ws.Pairwise (fun u v => wordLt v u = false)) (nd : ws.Nodup) : Asc ws := by
  have h2 := List.pairwise_iff_getElem.mp h
  have n2 := List.pairwise_iff_getElem.mp nd
  refine List.pairwise_iff_getElem.mpr fun i j hi hj hij => ?_
  cases q : wordLt ws[i] ws[j] with
  | true => rfl
  | false => exact absurd (word_tri q (h2 i j hi hj hij)) (n2 i j hi hj hij)
theorem zip_snd {α : Type} : ∀ {ts : List α} {ws : List (List Int)}, ts.length = ws.length → (ts.zip ws).map Prod.snd = ws
  | [], [], _ => rfl
  | t :: ts, w :: ws, h => by rw [List.zip_cons_cons, List.map_cons, zip_snd (by simpa using h)]
  | [], _ :: _, h => by simp at h
  | _ :: _, [], h => by simp at h
theorem ll_zip {H : Hp} {ts : List Addr} {ws : List (List Int)} (h : LL H ts ws) : ∀ z ∈ ts.zip ws, H z.1 = some (.lst (z.2.map V.int)) := fun z hz => by
  obtain ⟨i, hi⟩ := List.mem_iff_getElem?.mp hz
  rw [List.getElem?_zip_eq_some] at hi
  exact h.2 i z.1 z.2 hi.1 hi.2
theorem ll_of {H : Hp} {zs : List (Addr × List Int)} (h : ∀ z ∈ zs, H z.1 = some (.lst (z.2.map V.int))) : LL H (zs.map Prod.fst) (zs.map Prod.snd) := by
  refine ⟨by rw [List.length_map, List.length_map], fun i a w h1 h2 => ?_⟩
  rw [List.getElem?_map] at h1 h2
  cases q : zs[i]? with
  | none => rw [q] at h1; cases h1
  | some z =>
    rw [q] at h1 h2
    cases h1
    cases h2
    exact h z (List.mem_of_getElem? q)
/-- the promise of word_order: (len(word), word) -/
def spOrder (K : PySem.W.Frag) : Sp := fun vs H Q _ => ∃ (a : Addr) (ns : List Int), vs = [.ref a] ∧ (SqL K H a (ns.map V.int) ∨ SqT K H a (ns.map V.int)) ∧ ∀ p, H p = none → Q (.ref p) (upd H p (.tup [.int ns.length, .ref a]))
section
variable {K : PySem.W.Frag} {H : Hp} {Q : VK}
/-- sorted(words, key=word_order): a list of lists -/
theorem sort_lists {l f : Addr} {ts : List Addr} {ws : List (List Int)} (hl : H l = some (.lst (ts.map V.ref))) (h : LL H ts ws) (nd : ws.Nodup)
    (q : ∀ (H' : Hp) (p : Addr) (ts' : List Addr) (ws' : List (List Int)), Same H H' → H p = none → H' p = some (.lst (ts'.map V.ref)) → LL H' ts' ws' → ws'.Perm ws → Asc ws' → (∀ t ∈ ts', t ∈ ts) → Q (.ref p) H') : rSortK K f (spOrder K) [.ref l] [.ref f] H Q := by
  refine ⟨l, ts.map V.ref, rfl, rfl, SqL.of hl, fun i ks H' => Same H H' ∧ ∃ ps : List Addr, ks = ps.map V.ref ∧ ps.length = i ∧ ∀ (j : Nat) (p t : Addr) (w : List Int), ps[j]? = some p → ts[j]? = some t → ws[j]? = some w → H' p = some (.tup [.int w.length, .ref t]), ⟨Same.refl _, [], rfl, rfl, fun j p t w h => by simp at h⟩, ?_, ?_⟩
  · rintro i x ks H1 hx ⟨s1, ps, rfl, lp, hp⟩
    obtain ⟨t, ht, rfl⟩ := ofV hx
    have li := (List.getElem?_eq_some_iff.mp ht).1
    have hw := List.getElem?_eq_getElem (l := ws) (i := i) (by have := h.1; omega)
    refine ⟨t, ws[i]'(by have := h.1; omega), rfl, .inl (SqL.of (s1 _ _ (h.2 i _ _ ht hw))), fun p hp0 => ⟨same_upd s1 hp0, ps ++ [p], by rw [List.map_append]; rfl, by rw [List.length_append, lp]; rfl, fun j p' t' w' e1 e2 e3 => ?_⟩⟩
    have sp := same_upd (o := .tup [.int ((ws[i]'(by have := h.1; omega)).length : Int), .ref t]) (Same.refl H1) hp0
    rcases get_app e1 with z | ⟨z1, z2⟩
    · exact sp _ _ (hp j p' t' w' z e2 e3)
    · have ej : j = i := z1.trans lp
      subst ej
      rw [ht] at e2
      rw [hw] at e3
      cases e2
      cases e3
      rw [z2]
      exact upd_same
  · rintro ks H1 ⟨s1, ps, rfl, lp, hp⟩
    rw [List.length_map] at lp
    have lw := h.1
    have dk : ∀ (ps ts : List Addr) (ws : List (List Int)), ps.length = ts.length → ts.length = ws.length → (∀ (j : Nat) (p t : Addr) (w : List Int), ps[j]? = some p → ts[j]? = some t → ws[j]? = some w → H1 p = some (.tup [.int w.length, .ref t]) ∧ H1 t = some (.lst (w.map V.int))) → DpAll K H1 (ps.map V.ref) (ws.map wordD) := by
      intro ps
      induction ps with
      | nil =>
        intro ts ws h1 h2 _
        have : ws = [] := List.length_eq_zero_iff.mp (by rw [← h2, ← h1]; rfl)
        rw [this]
        exact .nil
      | cons p ps ih =>
        intro ts ws h1 h2 h3
        match ts, ws, h1, h2 with
        | t :: ts, w :: ws, h1, h2 =>
          obtain ⟨e1, e2⟩ := h3 0 p t w rfl rfl rfl
          exact .cons (.tup (SqT.of e1) (.cons (.int _) (.cons (.lst (SqL.of e2) (dp_ints w)) .nil))) (ih ts ws (by simpa using h1) (by simpa using h2) fun j p' t' w' a b c => h3 (j + 1) p' t' w' a b c)
    refine ⟨ws.map wordD, dk ps ts ws lp lw (fun j p t w a b c => ⟨hp j p t w a b c, s1 _ _ (h.2 j t w b c)⟩), PySem.W.AllAlike.of alike_word, PySem.W.Sortable.tuples (fun w => ⟨_, _, rfl⟩), fun d hd => ?_, fun p hp0 => ?_⟩
    · obtain ⟨w, _, rfl⟩ := List.mem_map.mp hd
      exact depth_wordD w
    · obtain ⟨zs, ez, pz, az⟩ := sortW V.ref dataLt_word ts ws lw
      rw [ez]
      have s2 := same_upd (o := .lst (zs.map fun z => V.ref z.1)) s1 hp0
      have pw : (zs.map Prod.snd).Perm ws := by
        have := pz.map Prod.snd
        rw [zip_snd lw] at this
        exact this
      refine q _ p (zs.map Prod.fst) (zs.map Prod.snd) s2 (s1.free hp0) (by rw [upd_same, List.map_map]; rfl) (ll_of fun z hz => s2 _ _ (ll_zip h z (pz.mem_iff.mp hz))) pw (asc_of az (pw.nodup_iff.mpr nd)) fun t ht => ?_
      obtain ⟨z, hz, rfl⟩ := List.mem_map.mp ht
      exact (List.of_mem_zip (pz.mem_iff.mp hz)).1
/-- sorted(found, key=word_order): a dict whose keys are words -/
theorem sort_words {d f : Addr} {kvs : List (List L2.Key × V)} {ws : List (List Int)} (hd : H d = some (.dT kvs)) (hk : kvs.map Prod.fst = ws.map (fun w => w.map Sum.inl)) (nd : ws.Nodup)
    (q : ∀ (H' : Hp) (p : Addr) (ts' : List Addr) (ws' : List (List Int)), Same H H' → H p = none → H' p = some (.lst (ts'.map V.ref)) → ts'.length = ws'.length → (∀ (i : Nat) (t : Addr) (w : List Int), ts'[i]? = some t → ws'[i]? = some w → H' t = some (.tup (w.map V.int))) → ws'.Perm ws → Asc ws' → Q (.ref p) H') : rSortKD K f (spOrder K) [.ref d] [.ref f] H Q := by
  refine ⟨d, kvs, rfl, rfl, .inl hd, fun ts hts => ?_⟩
  have lkv : kvs.length = ws.length := by
    have := congrArg List.length hk
    rwa [List.length_map, List.length_map] at this
  have lw : ts.length = ws.length := (Paired.length hts).symm.trans lkv
  have ht0 : ∀ (j : Nat) (t : Addr) (w : List Int), ts[j]? = some t → ws[j]? = some w → H t = some (.tup (w.map V.int)) := fun j t w h1 h2 => by
    have lj := (List.getElem?_eq_some_iff.mp h1).1
    have hkv := List.getElem?_eq_getElem (l := kvs) (i := j) (by omega)
    have e1 : (kvs.map Prod.fst)[j]? = some (kvs[j]'(by omega)).1 := by rw [List.getElem?_map, hkv]; rfl
    rw [hk, List.getElem?_map, h2] at e1
    have e1 : w.map Sum.inl = (kvs[j]'(by omega)).1 := Option.some.inj e1
    obtain ⟨b, hb, e2⟩ := L2.paired_get hts hkv
    rw [h1] at hb
    cases hb
    have e2 : H t = some (.tup ((kvs[j]'(by omega)).1.map kV)) := e2
    rw [← e1, List.map_map] at e2
    exact e2
  refine ⟨fun i ks H' => Same H H' ∧ ∃ ps : List Addr, ks = ps.map V.ref ∧ ps.length = i ∧ ∀ (j : Nat) (p t : Addr) (w : List Int), ps[j]? = some p → ts[j]? = some t → ws[j]? = some w → H' p = some (.tup [.int w.length, .ref t]), ⟨Same.refl _, [], rfl, rfl, fun j p t w h => by simp at h⟩, ?_, ?_⟩
  · rintro i x ks H1 hx ⟨s1, ps, rfl, lp, hp⟩
    obtain ⟨t, ht, rfl⟩ := ofV hx
    have li := (List.getElem?_eq_some_iff.mp ht).1
    have hw := List.getElem?_eq_getElem (l := ws) (i := i) (by omega)
    refine ⟨t, ws[i]'(by omega), rfl, .inr (SqT.of (s1 _ _ (ht0 i _ _ ht hw))), fun p hp0 => ⟨same_upd s1 hp0, ps ++ [p], by rw [List.map_append]; rfl, by rw [List.length_append, lp]; rfl, fun j p' t' w' e1 e2 e3 => ?_⟩⟩
    have sp := same_upd (o := .tup [.int ((ws[i]'(by omega)).length : Int), .ref t]) (Same.refl H1) hp0
    rcases get_app e1 with z | ⟨z1, z2⟩
    · exact sp _ _ (hp j p' t' w' z e2 e3)
    · have ej : j = i := z1.trans lp
      subst ej
      rw [ht] at e2
      rw [hw] at e3
      cases e2
      cases e3
      rw [z2]
      exact upd_same
  · rintro ks H1 ⟨s1, ps, rfl, lp, hp⟩
    rw [List.length_map] at lp
    have dk : ∀ (ps ts : List Addr) (ws : List (List Int)), ps.length = ts.length → ts.length = ws.length → (∀ (j : Nat) (p t : Addr) (w : List Int), ps[j]? = some p → ts[j]? = some t → ws[j]? = some w → H1 p = some (.tup [.int w.length, .ref t]) ∧ H1 t = some (.tup (w.map V.int))) → DpAll K H1 (ps.map V.ref) (ws.map wordT) := by
      intro ps
      induction ps with
      | nil =>
        intro ts ws h1 h2 _
        have : ws = [] := List.length_eq_zero_iff.mp (by rw [← h2, ← h1]; rfl)
        rw [this]
        exact .nil
      | cons p ps ih =>
        intro ts ws h1 h2 h3
        match ts, ws, h1, h2 with
        | t :: ts, w :: ws, h1, h2 =>
          obtain ⟨e1, e2⟩ := h3 0 p t w rfl rfl rfl
          exact .cons (.tup (SqT.of e1) (.cons (.int _) (.cons (.tup (SqT.of e2) (dp_ints w)) .nil))) (ih ts ws (by simpa using h1) (by simpa using h2) fun j p' t' w' a b c => h3 (j + 1) p' t' w' a b c)
    refine ⟨ws.map wordT, dk ps ts ws lp lw (fun j p t w a b c => ⟨hp j p t w a b c, s1 _ _ (ht0 j t w b c)⟩), PySem.W.AllAlike.of alike_wordT, PySem.W.Sortable.tuples (fun w => ⟨_, _, rfl⟩), fun d hd => ?_, fun p hp0 => ?_⟩
    · obtain ⟨w, _, rfl⟩ := List.mem_map.mp hd
      exact depth_wordT w
    · obtain ⟨zs, ez, pz, az⟩ := sortW V.ref dataLt_wordT ts ws lw
      rw [ez]
      have s2 := same_upd (o := .lst (zs.map fun z => V.ref z.1)) s1 hp0
      have pw : (zs.map Prod.snd).Perm ws := by
        have := pz.map Prod.snd
        rw [zip_snd lw] at this
        exact this
      refine q _ p (zs.map Prod.fst) (zs.map Prod.snd) s2 (s1.free hp0) (by rw [upd_same, List.map_map]; rfl) (by rw [List.length_map, List.length_map]) (fun i t w h1 h2 => ?_) pw (asc_of az (pw.nodup_iff.mpr nd))
      rw [List.getElem?_map] at h1 h2
      cases qz : zs[i]? with
      | none => rw [qz] at h1; cases h1
      | some z =>
        rw [qz] at h1 h2
        cases h1
        cases h2
        have hz := pz.mem_iff.mp (List.mem_of_getElem? qz)
        obtain ⟨j, hj⟩ := List.mem_iff_getElem?.mp hz
        rw [List.getElem?_zip_eq_some] at hj
        exact s2 _ _ (ht0 j z.1 z.2 hj.1 hj.2)
end
end Mz

set_option Elab.async false
set_option linter.all false
set_option maxRecDepth 100000
set_option maxHeartbeats 4000000
/-! the ways to all states; the words of a suite, and that they tell all machines up to a size -/
namespace Mz
open PySem PySem.Spec PyProof.Rows L2
section
variable {M : Mach}
theorem addW_mem {s : Int} {w : List Int} {L : List Wn} {a : Int} {n : Wn} (h : n ∈ L) : n ∈ addW M s w L a := by
  unfold addW
  split
  · exact h
  · exact List.mem_append_left _ h
theorem procW_mem {n m : Wn} {L : List Wn} (h : m ∈ L) : ∀ j, m ∈ procW M n L j
  | 0 => h
  | j + 1 => by rw [procW_succ]; exact addW_mem (procW_mem h j)
theorem addW_has {s : Int} {w : List Int} {L : List Wn} {a : Int} : ∃ m ∈ addW M s w L a, m.1 = M.next s a := by
  unfold addW
  split
  · rename_i c
    obtain ⟨m, hm, e⟩ := List.any_eq_true.mp c
    exact ⟨m, hm, of_decide_eq_true e⟩
  · exact ⟨_, List.mem_append_right _ List.mem_cons_self, rfl⟩
theorem procW_has {n : Wn} {L : List Wn} : ∀ (j a : Nat), a < j → ∃ m ∈ procW M n L j, m.1 = M.next n.1 (a : Int)
  | j + 1, a, h => by
    rw [procW_succ]
    by_cases c : a = j
    · subst c
      exact addW_has
    · obtain ⟨m, hm, e⟩ := procW_has (n := n) (L := L) j a (by omega)
      exact ⟨m, addW_mem hm, e⟩
/-- each word leads to its state; it is empty or a word of the list and one letter more -/
structure Wtrue (M : Mach) (L : List Wn) : Prop where
  run : ∀ n ∈ L, M.run 0 n.2 = n.1
  pre : ∀ n ∈ L, n.2 = [] ∨ ∃ m ∈ L, ∃ a : Nat, (a : Int) < M.ls ∧ n.2 = m.2 ++ [(a : Int)]
theorem Wtrue.add {L : List Wn} (k : Wtrue M L) {n : Wn} (h : n ∈ L) {a : Nat} (ha : (a : Int) < M.ls) : Wtrue M (addW M n.1 n.2 L (a : Int)) := by
  refine ⟨fun m hm => ?_, fun m hm => ?_⟩
  · unfold addW at hm
    split at hm
    · exact k.run m hm
    · rcases List.mem_append.mp hm with z | z
      · exact k.run m z
      · rw [List.mem_singleton.mp z, run_snoc, k.run n h]
  · unfold addW at hm
    split at hm
    · rcases k.pre m hm with z | ⟨m', h1, b, h2, h3⟩
      · exact .inl z
      · exact .inr ⟨m', addW_mem h1, b, h2, h3⟩
    · rcases List.mem_append.mp hm with z | z
      · rcases k.pre m z with z | ⟨m', h1, b, h2, h3⟩
        · exact .inl z
        · exact .inr ⟨m', addW_mem h1, b, h2, h3⟩
      · rw [List.mem_singleton.mp z]
        exact .inr ⟨n, addW_mem h, a, ha, rfl⟩
theorem Wtrue.proc {L : List Wn} (k : Wtrue M L) {n : Wn} (h : n ∈ L) : ∀ j : Nat, (j : Int) ≤ M.ls → Wtrue M (procW M n L j)
  | 0, _ => k
  | j + 1, hj => by
    rw [procW_succ]
    exact (Wtrue.proc k h j (by omega)).add (procW_mem h j) (by omega)
theorem wtrue_run (g : Good M) : ∀ i, Wtrue M (runW M i)
  | 0 => ⟨fun n hn => by rw [List.mem_singleton.mp hn]; rfl, fun n hn => by rw [List.mem_singleton.mp hn]; exact .inl rfl⟩
  | i + 1 => by
    have ih := wtrue_run g i
    have l1 := g.l1
    cases e : (runW M i)[i]? with
    | none => rw [runW_none e]; exact ih
    | some n => rw [runW_some e]; exact ih.proc (List.mem_of_getElem? e) _ (by omega)
theorem runW_keep {i j : Nat} {n : Wn} (h : (runW M i)[j]? = some n) : ∀ d, (runW M (i + d))[j]? = some n
  | 0 => h
  | d + 1 => by
    have ih := runW_keep h d
    show (runW M (i + d + 1))[j]? = some n
    cases e : (runW M (i + d))[i + d]? with
    | none => rw [runW_none e]; exact ih
    | some m =>
      rw [runW_some e]
      generalize M.ls.toNat = c
      induction c with
      | zero => exact ih
      | succ c ihc => rw [procW_succ]; exact addW_keep ihc
theorem mem_runW {i : Nat} {n : Wn} (h : n ∈ runW M i) (d : Nat) : n ∈ runW M (i + d) := by
  obtain ⟨j, hj⟩ := List.mem_iff_getElem?.mp h
  exact List.mem_of_getElem? (runW_keep hj d)
/-- what can be reached is in the list -/
theorem lastW_closed (g : Good M) {n : Wn} (h : n ∈ lastW M) {a : Int} (h0 : 0 ≤ a) (h1 : a < M.ls) : ∃ m ∈ lastW M, m.1 = M.next n.1 a := by
  obtain ⟨j, hj⟩ := List.mem_iff_getElem?.mp h
  have few := (wok_run g M.rows.length).few
  have jl := (List.getElem?_eq_some_iff.mp hj).1
  have jl : j < (runW M M.rows.length).length := jl
  have e : (runW M j)[j]? = some n := by
    -- the entry at j is there as soon as all before it are done
    have key : ∀ i, j ≤ i → ∀ m : Wn, (runW M i)[j]? = some m → (runW M j)[j]? = some m := by
      intro i
      induction i with
      | zero => intro hi m hm; rw [show j = 0 by omega] at hm ⊢; exact hm
      | succ i ih =>
        intro hi m hm
        by_cases c : j = i + 1
        · rw [c] at hm ⊢; exact hm
        · cases q : (runW M j)[j]? with
          | some m' =>
            have := runW_keep q (i + 1 - j)
            rw [show j + (i + 1 - j) = i + 1 by omega, hm] at this
            exact this.symm
          | none =>
            have l : (runW M j).length ≤ j := by
              rcases Nat.lt_or_ge j (runW M j).length with z | z
              · rw [List.getElem?_eq_getElem z] at q; cases q
              · exact z
            have := runW_end l (i + 1 - j)
            rw [show j + (i + 1 - j) = i + 1 by omega] at this
            rw [this, q] at hm
            cases hm
    exact key M.rows.length (by omega) n hj
  obtain ⟨m, hm, em⟩ := procW_has (M := M) (n := n) (L := runW M j) M.ls.toNat a.toNat (by omega)
  rw [← runW_some e] at hm
  have := mem_runW hm (M.rows.length - (j + 1))
  rw [show j + 1 + (M.rows.length - (j + 1)) = M.rows.length by omega] at this
  exact ⟨m, this, by rw [em, Int.toNat_of_nonneg h0]⟩
theorem lastW_zero (g : Good M) : ((0 : Int), ([] : List Int)) ∈ lastW M := by
  have := mem_runW (M := M) (i := 0) (n := (0, [])) List.mem_cons_self M.rows.length
  rwa [Nat.zero_add] at this
theorem lastW_reach (g : Good M) : ∀ v, Lt M.ls v → ∃ m ∈ lastW M, m.1 = M.run 0 v := by
  intro v
  induction v using snoc_ind with
  | h0 => exact fun _ => ⟨_, lastW_zero g, rfl⟩
  | hs v a ih =>
    intro h
    obtain ⟨h1, h2, h3⟩ := lt_snoc.mp h
    obtain ⟨m, hm, e⟩ := ih h1
    obtain ⟨m', hm', e'⟩ := lastW_closed g hm h2 h3
    exact ⟨m', hm', by rw [e', e, run_snoc]⟩
theorem look_of (g : Good M) {n : Wn} (h : n ∈ lastW M) : wayW M n.1 = some n.2 := by
  have k := wok_run g M.rows.length
  cases q : wayW M n.1 with
  | none =>
    have q : (lastW M).find? (fun m => decide (m.1 = n.1)) = none := by
      unfold wayW lookW at q
      cases e : (lastW M).find? (fun m => decide (m.1 = n.1)) with
      | none => rfl
      | some m => rw [e] at q; cases q
    have := List.find?_eq_none.mp q n h
    simp at this
  | some w =>
    have hm : (n.1, w) ∈ lastW M := lookW_mem q
    obtain ⟨i, hi⟩ := List.mem_iff_getElem?.mp h
    obtain ⟨j, hj⟩ := List.mem_iff_getElem?.mp hm
    have nod : ((lastW M).map (·.1)).Nodup := k.nod
    have li := (List.getElem?_eq_some_iff.mp hi).1
    have lj := (List.getElem?_eq_some_iff.mp hj).1
    have e1 : ((lastW M).map (·.1))[i]? = some n.1 := by rw [List.getElem?_map, hi]; rfl
    have e2 : ((lastW M).map (·.1))[j]? = some n.1 := by rw [List.getElem?_map, hj]; rfl
    have : i = j := (List.getElem?_inj (by rw [List.length_map]; exact li) nod).mp (e1.trans e2.symm)
    subst this
    rw [hi] at hj
    have : n = (n.1, w) := Option.some.inj hj
    rw [congrArg Prod.snd this]
/-- the way to a state that a word leads to -/
structure WayTo (M : Mach) (s : Int) (w : List Int) : Prop where
  lt : Lt M.ls w
  len : w.length + 1 ≤ M.rows.length
  run : M.run 0 w = s
  pre : w = [] ∨ ∃ (t : Int) (u : List Int) (a : Nat), M.St t ∧ wayW M t = some u ∧ (a : Int) < M.ls ∧ w = u ++ [(a : Int)]
theorem way_to (g : Good M) {s : Int} {w : List Int} (h : wayW M s = some w) : WayTo M s w := by
  have k := wok_run g M.rows.length
  have t := wtrue_run g M.rows.length
  have hm : (s, w) ∈ runW M M.rows.length := lookW_mem h
  obtain ⟨j, hj⟩ := List.mem_iff_getElem?.mp hm
  have l1 := k.ln j _ hj
  have jl := (List.getElem?_eq_some_iff.mp hj).1
  have few := k.few
  refine ⟨k.lt _ hm, ?_, t.run _ hm, ?_⟩
  · have l1 : w.length ≤ j := l1
    omega
  · rcases t.pre _ hm with z | ⟨m, h1, a, h2, h3⟩
    · exact .inl z
    · exact .inr ⟨m.1, m.2, a, k.st m h1, look_of g h1, h2, h3⟩
theorem way_some (F : Full M) {s : Int} (hs : M.St s) : ∃ w, wayW M s = some w ∧ WayTo M s w := by
  obtain ⟨v, hv, e⟩ := F.reach s hs
  obtain ⟨m, hm, em⟩ := lastW_reach F.good v hv
  have := look_of F.good hm
  rw [em, e] at this
  exact ⟨_, this, way_to F.good this⟩
end
/-! ### the suite -/
/-- the way to a state, as a word -/
def wy (M : Mach) (s : Nat) : List Int := (wayW M (s : Int)).getD []
def headsW (M : Mach) : List (List Int) := [] :: (List.range M.rows.length).flatMap fun s : Nat => moreW M.ls.toNat (wy M s)
def midsW (L e : Nat) : List (List Int) := (List.range (e + 1)).flatMap (allW L)
theorem mids_mem {L e : Nat} {m : List Int} : m ∈ midsW L e ↔ m.length ≤ e ∧ Lt (L : Int) m := by
  unfold midsW
  rw [List.mem_flatMap]
  constructor
  · rintro ⟨k, hk, h⟩
    have := List.mem_range.mp hk
    obtain ⟨h1, h2⟩ := allW_mem.mp h
    exact ⟨by omega, h2⟩
  · rintro ⟨h1, h2⟩
    exact ⟨m.length, List.mem_range.mpr (by omega), allW_mem.mpr ⟨rfl, h2⟩⟩
theorem heads_len {M : Mach} (g : Good M) : ((headsW M).length : Int) = M.rows.length * M.ls + 1 := by
  have l1 := g.l1
  unfold headsW
  have : ∀ l : List Nat, (l.flatMap fun s : Nat => moreW M.ls.toNat (wy M s)).length = l.length * M.ls.toNat := by
    intro l
    induction l with
    | nil => simp
    | cons x l ih => rw [List.flatMap_cons, List.length_append, moreW_len, ih, List.length_cons, Nat.succ_mul]; omega
  rw [List.length_cons, this, List.length_range]
  rw [show ((M.rows.length * M.ls.toNat + 1 : Nat) : Int) = (M.rows.length : Int) * (M.ls.toNat : Int) + 1 by push_cast; rfl, Int.toNat_of_nonneg (by omega)]
/-- a word of the suite -/
def InSuite (M : Mach) (e : Nat) (tails : List (List Int)) (w : List Int) : Prop := ∃ h ∈ headsW M, ∃ m ∈ midsW M.ls.toNat e, ∃ t ∈ tails, w = h ++ m ++ t
theorem head_ok {M : Mach} (F : Full M) {h : List Int} (hh : h ∈ headsW M) : Lt M.ls h ∧ h.length ≤ M.rows.length := by
  have l1 := F.good.l1
  rcases List.mem_cons.mp hh with z | z
  · rw [z]
    exact ⟨fun x hx => absurd hx (by simp), Nat.zero_le _⟩
  · obtain ⟨s, hs, hw⟩ := List.mem_flatMap.mp z
    have sl := List.mem_range.mp hs
    obtain ⟨a, ha, rfl⟩ := List.mem_map.mp hw
    have al := List.mem_range.mp ha
    obtain ⟨w, e, t⟩ := way_some F (s := (s : Int)) ⟨by omega, by omega⟩
    have ew : wy M s = w := by unfold wy; rw [e]; rfl
    rw [ew]
    refine ⟨lt_snoc.mpr ⟨t.lt, by omega, by omega⟩, ?_⟩
    have := t.len
    rw [List.length_append]
    exact this
/-- how many things have a property -/
noncomputable def many (n : Nat) (P : Nat → Prop) : Nat := ((List.range n).filter fun x => @decide (P x) (Classical.propDecidable _)).length
theorem many_le (n : Nat) (P : Nat → Prop) : many n P ≤ n := by
  have := List.length_filter_le (fun x => @decide (P x) (Classical.propDecidable _)) (List.range n)
  rw [List.length_range] at this
  exact this
theorem many_lt {n : Nat} {P R : Nat → Prop} (h : ∀ x, P x → R x) (e : ∃ x, x < n ∧ R x ∧ ¬ P x) : many n P < many n R := by
  unfold many
  obtain ⟨x, hx, r, p⟩ := e
  exact filter_lt _ (fun y _ z => by simp at z ⊢; exact h y z) ⟨x, List.mem_range.mpr hx, by simpa using r, by simpa using p⟩
theorem many_all {n : Nat} {P : Nat → Prop} (h : n ≤ many n P) {x : Nat} (hx : x < n) : P x := Classical.byContradiction fun no => by
  have := many_lt (n := n) (P := P) (R := fun _ => True) (fun _ _ => trivial) ⟨x, hx, trivial, no⟩
  have := many_le n fun _ => True
  omega
/-- n different things -/
theorem many_ge {n k : Nat} {P : Nat → Prop} (f : Nat → Nat) (h : ∀ i, i < k → f i < n ∧ P (f i)) (inj : ∀ i j, i < k → j < k → f i = f j → i = j) : k ≤ many n P := by
  have key : ∀ j, j ≤ k → j ≤ many n fun x => ∃ i, i < j ∧ f i = x := by
    intro j
    induction j with
    | zero => exact fun _ => Nat.zero_le _
    | succ j ih =>
      intro hj
      have := ih (by omega)
      have := many_lt (n := n) (P := fun x => ∃ i, i < j ∧ f i = x) (R := fun x => ∃ i, i < j + 1 ∧ f i = x) (fun x ⟨i, a, b⟩ => ⟨i, by omega, b⟩) ⟨f j, (h j (by omega)).1, ⟨j, by omega, rfl⟩, fun ⟨i, a, b⟩ => by
        have := inj i j (by omega) (by omega) b
        omega⟩
      omega
  have h1 := key k (Nat.le_refl _)
  rcases Nat.lt_or_ge (many n P) (many n fun x => ∃ i, i < k ∧ f i = x) with z | z
  · exfalso
    have le : many n (fun x => ∃ i, i < k ∧ f i = x) ≤ many n P := by
      unfold many
      exact filter_le _ fun y _ q => by
        simp only [decide_eq_true_eq] at q ⊢
        obtain ⟨i, a, b⟩ := q
        exact b ▸ (h i a).2
    omega
  · omega
section
variable {L N : Mach} {W : List (List Int)} {e : Nat}
/-- alike along the tails -/
def AlT (L N : Mach) (W : List (List Int)) (s q : Int) : Prop := ∀ t ∈ W, outsA L s t = outsA N q t
theorem outs_suffix {u t : List Int} (h : outsA L 0 (u ++ t) = outsA N 0 (u ++ t)) : outsA L (L.run 0 u) t = outsA N (N.run 0 u) t := by
  rw [outs_eq] at h ⊢
  intro i hi
  have := h (u.length + i) (by rw [List.length_append]; omega)
  rw [List.take_length_add_append] at this
  rw [run_app, run_app] at this
  exact this
/-- a machine with few states more that answers alike along all words of the suite answers alike -/
theorem suite_tells (F : Full L) (gN : Good N) (ls : N.ls = L.ls) (few : N.rows.length ≤ L.rows.length + e) (nil : [] ∈ W) (tell : ∀ i j : Nat, i < L.rows.length → j < L.rows.length → AL L W i j → i = j)
    (h : ∀ w, InSuite L e W w → outsA L 0 w = outsA N 0 w) : Sim L N 0 0 := by
  have gL := F.good
  have l1 := gL.l1
  have eL : ((L.ls.toNat : Nat) : Int) = L.ls := Int.toNat_of_nonneg (by omega)
  -- heads and middles
  have al : ∀ {x m : List Int}, x ∈ headsW L → m.length ≤ e → Lt L.ls m → AlT L N W (L.run 0 (x ++ m)) (N.run 0 (x ++ m)) := fun {x m} hx hm lm t ht =>
    outs_suffix (h _ ⟨x, hx, m, mids_mem.mpr ⟨hm, by rw [eL]; exact lm⟩, t, ht, rfl⟩)
  have wy_some : ∀ s : Nat, s < L.rows.length → wayW L (s : Int) = some (wy L s) ∧ WayTo L (s : Int) (wy L s) := fun s hs => by
    obtain ⟨w, e1, t⟩ := way_some F (s := (s : Int)) ⟨by omega, by omega⟩
    have ew : wy L s = w := by unfold wy; rw [e1]; rfl
    rw [ew]
    exact ⟨e1, t⟩
  have wy_more : ∀ (s a : Nat), s < L.rows.length → (a : Int) < L.ls → wy L s ++ [(a : Int)] ∈ headsW L := fun s a hs ha =>
    List.mem_cons_of_mem _ (List.mem_flatMap.mpr ⟨s, List.mem_range.mpr hs, List.mem_map.mpr ⟨a, List.mem_range.mpr (by omega), rfl⟩⟩)
  have wy_head : ∀ s : Nat, s < L.rows.length → wy L s ∈ headsW L := fun s hs => by
    obtain ⟨e1, t⟩ := wy_some s hs
    rcases t.pre with z | ⟨t', u, a, ht', hu, ha, z⟩
    · rw [z]
      exact List.mem_cons_self
    · have h0 := ht'.1
      have h1 := ht'.2
      have eu : wy L t'.toNat = u := by unfold wy; rw [Int.toNat_of_nonneg h0, hu]; rfl
      rw [z, ← eu]
      exact wy_more _ a (by omega) ha
  -- way and middle, then one letter more
  have al0 : ∀ {s : Nat} {m : List Int}, s < L.rows.length → m.length ≤ e + 1 → Lt L.ls m → AlT L N W (L.run 0 (wy L s ++ m)) (N.run 0 (wy L s ++ m)) := fun {s m} hs hm lm => by
    cases m with
    | nil => exact al (m := []) (wy_head s hs) (Nat.zero_le _) (fun z hz => absurd hz (by simp))
    | cons a m =>
      have ha := lm a List.mem_cons_self
      have := al (m := m) (wy_more s a.toNat hs (by omega)) (by simpa using hm) (fun z hz => lm z (List.mem_cons_of_mem _ hz))
      rw [Int.toNat_of_nonneg ha.1, List.append_assoc] at this
      exact this
  -- the states of N behind a way and at most j letters
  let S : Nat → Nat → Prop := fun j q => ∃ (s : Nat) (m : List Int), s < L.rows.length ∧ m.length ≤ j ∧ Lt L.ls m ∧ N.run 0 (wy L s ++ m) = (q : Int)
  have stN : ∀ {s : Nat} {m : List Int}, s < L.rows.length → Lt L.ls m → N.St (N.run 0 (wy L s ++ m)) := fun {s m} hs lm => by
    refine gN.runs gN.st0 ?_
    rw [ls]
    intro z hz
    rcases List.mem_append.mp hz with y | y
    · exact (wy_some s hs).2.lt z y
    · exact lm z y
  have uniq : ∀ {i j : Nat} {q : Int}, i < L.rows.length → j < L.rows.length → AlT L N W (i : Int) q → AlT L N W (j : Int) q → i = j := fun {i j q} hi hj h1 h2 => tell i j hi hj fun t ht => (h1 t ht).trans (h2 t ht).symm
  have base : L.rows.length ≤ many N.rows.length (S 0) := by
    have nn : Lt L.ls [] := fun z hz => absurd hz (by simp)
    refine many_ge (fun i => (N.run 0 (wy L i)).toNat) (fun i hi => ?_) (fun i j hi hj e1 => ?_)
    · have st := stN (s := i) (m := []) hi nn
      rw [List.append_nil] at st
      have a1 := st.1
      have a2 := st.2
      exact ⟨by omega, i, [], hi, Nat.le_refl _, nn, by rw [List.append_nil, Int.toNat_of_nonneg a1]⟩
    · have si := stN (s := i) (m := []) hi nn
      have sj := stN (s := j) (m := []) hj nn
      have ai := al0 (s := i) (m := []) hi (Nat.zero_le _) nn
      have aj := al0 (s := j) (m := []) hj (Nat.zero_le _) nn
      rw [List.append_nil] at si sj ai aj
      rw [(wy_some i hi).2.run] at ai
      rw [(wy_some j hj).2.run] at aj
      have a1 := si.1
      have a2 := sj.1
      have e2 : N.run 0 (wy L i) = N.run 0 (wy L j) := by
        have e1 : (N.run 0 (wy L i)).toNat = (N.run 0 (wy L j)).toNat := e1
        omega
      rw [e2] at ai
      exact uniq hi hj ai aj
  have up : ∀ j q, S j q → S (j + 1) q := fun j q ⟨s, m, a, b, c, d⟩ => ⟨s, m, a, by omega, c, d⟩
  have mono : ∀ {j k q}, j ≤ k → S j q → S k q := fun {j k q} hjk ⟨s, m, a, b, c, d⟩ => ⟨s, m, a, by omega, c, d⟩
  -- closed at some place
  have clos : ∃ j, j ≤ e ∧ ∀ q, S (j + 1) q → S j q := by
    refine Classical.byContradiction fun no => ?_
    have no : ∀ j, j ≤ e → ∃ q, S (j + 1) q ∧ ¬ S j q := fun j hj => Classical.byContradiction fun n => no ⟨j, hj, fun q hq => Classical.byContradiction fun n2 => n ⟨q, hq, n2⟩⟩
    have grow : ∀ j, j ≤ e + 1 → L.rows.length + j ≤ many N.rows.length (S j) := by
      intro j
      induction j with
      | zero => intro _; exact base
      | succ j ih =>
        intro hj
        have := ih (by omega)
        obtain ⟨q, h1, h2⟩ := no j (by omega)
        have ql : q < N.rows.length := by
          obtain ⟨s, m, a, b, c, d⟩ := h1
          have st := stN a c
          rw [d] at st
          have := st.2
          omega
        have := many_lt (n := N.rows.length) (up j) ⟨q, ql, h1, h2⟩
        omega
    have := grow (e + 1) (Nat.le_refl _)
    have := many_le N.rows.length (S (e + 1))
    omega
  obtain ⟨j, hj, cl⟩ := clos
  -- all that can be reached
  have main : ∀ v, Lt L.ls v → AlT L N W (L.run 0 v) (N.run 0 v) ∧ ∃ (s : Nat) (m : List Int), s < L.rows.length ∧ m.length ≤ j ∧ Lt L.ls m ∧ N.run 0 (wy L s ++ m) = N.run 0 v ∧ L.run 0 (wy L s ++ m) = L.run 0 v := by
    intro v
    induction v using snoc_ind with
    | h0 =>
      intro _
      have nn : Lt L.ls [] := fun z hz => absurd hz (by simp)
      have w0 : wy L 0 = [] := by unfold wy; rw [show (((0 : Nat)) : Int) = 0 from rfl, way_zero gL]; rfl
      have s0 : 0 < L.rows.length := by have := gL.s1; omega
      have := al0 (s := 0) (m := []) s0 (Nat.zero_le _) nn
      rw [w0] at this
      exact ⟨this, 0, [], s0, Nat.zero_le _, nn, by rw [w0]; rfl, by rw [w0]; rfl⟩
    | hs v a ih =>
      intro lv
      obtain ⟨h1, h2, h3⟩ := lt_snoc.mp lv
      obtain ⟨_, s, m, hs, hm, lm, eN, eL'⟩ := ih h1
      have lma : Lt L.ls (m ++ [a]) := lt_snoc.mpr ⟨lm, h2, h3⟩
      have A1 := al0 (s := s) (m := m ++ [a]) hs (by rw [List.length_append]; show m.length + 1 ≤ _; omega) lma
      rw [← List.append_assoc, run_snoc, run_snoc, eN, eL', ← run_snoc, ← run_snoc] at A1
      have sq := stN (s := s) (m := m ++ [a]) hs lma
      have q0 := sq.1
      have inS : S (j + 1) (N.run 0 (wy L s ++ (m ++ [a]))).toNat := ⟨s, m ++ [a], hs, by rw [List.length_append]; show m.length + 1 ≤ _; omega, lma, by rw [Int.toNat_of_nonneg q0]⟩
      obtain ⟨s', m', hs', hm', lm', e'⟩ := cl _ inS
      rw [Int.toNat_of_nonneg q0, ← List.append_assoc, run_snoc, eN, ← run_snoc] at e'
      have A2 := al0 (s := s') (m := m') hs' (by omega) lm'
      rw [e'] at A2
      have stL : ∀ {u : List Int}, Lt L.ls u → L.St (L.run 0 u) := fun h => gL.runs gL.st0 h
      have t1 := stL lv
      have t2 := stL (u := wy L s' ++ m') (by
        intro z hz
        rcases List.mem_append.mp hz with y | y
        · exact (wy_some s' hs').2.lt z y
        · exact lm' z y)
      have b1 := t1.1
      have b2 := t1.2
      have c1 := t2.1
      have c2 := t2.2
      have := uniq (i := (L.run 0 (v ++ [a])).toNat) (j := (L.run 0 (wy L s' ++ m')).toNat) (q := N.run 0 (v ++ [a])) (by omega) (by omega) (by rw [Int.toNat_of_nonneg b1]; exact A1) (by rw [Int.toNat_of_nonneg c1]; exact A2)
      exact ⟨A1, s', m', hs', hm', lm', e', by omega⟩
  intro v hv
  have := (main v hv).1 [] nil
  rw [outs_nil, outs_nil] at this
  injection this
end
end Mz

set_option Elab.async false
set_option linter.all false
set_option maxRecDepth 100000
set_option maxHeartbeats 4000000
/-! a machine with its states in another order, told by a list of places -/
namespace Mz
open PySem PySem.Spec PyProof.Rows L2
structure Plc (n : Nat) (pl : List Int) : Prop where
  len : pl.length = n
  rg : ∀ z ∈ pl, 0 ≤ z ∧ z < (n : Int)
  nd : pl.Nodup
  st : pl[0]? = some 0
theorem Plc.at {n : Nat} {pl : List Int} (p : Plc n pl) {i : Nat} (h : i < n) : ∃ z, pl[i]? = some z ∧ pl.getD i 0 = z ∧ 0 ≤ z ∧ z < (n : Int) := by
  have e := List.getElem?_eq_getElem (l := pl) (i := i) (by rw [p.len]; exact h)
  obtain ⟨a, b⟩ := p.rg _ (List.mem_of_getElem? e)
  exact ⟨_, e, by rw [List.getD_eq_getElem?_getD, e]; rfl, a, b⟩
theorem Plc.inj {n : Nat} {pl : List Int} (p : Plc n pl) {i j : Nat} (hi : i < n) (hj : j < n) (e : pl.getD i 0 = pl.getD j 0) : i = j := by
  obtain ⟨z, h1, h2, _, _⟩ := p.at hi
  obtain ⟨y, g1, g2, _, _⟩ := p.at hj
  rw [h2, g2] at e
  subst e
  exact (List.getElem?_inj (by rw [p.len]; exact hi) p.nd).mp (h1.trans g1.symm)
theorem Plc.sur {n : Nat} {pl : List Int} (p : Plc n pl) {y : Nat} (hy : y < n) : ∃ i, i < n ∧ pl.getD i 0 = (y : Int) := by
  have := many_ge (n := n) (k := n) (P := fun y => ∃ i, i < n ∧ pl.getD i 0 = (y : Int)) (fun i => (pl.getD i 0).toNat) (fun i hi => by
    obtain ⟨z, _, h2, h3, h4⟩ := p.at hi
    exact ⟨by rw [h2]; omega, i, hi, by rw [h2]; omega⟩) (fun i j hi hj e => by
    obtain ⟨z, _, h2, h3, h4⟩ := p.at hi
    obtain ⟨y, _, g2, g3, g4⟩ := p.at hj
    refine p.inj hi hj ?_
    have e : (pl.getD i 0).toNat = (pl.getD j 0).toNat := e
    rw [h2, g2] at e ⊢
    omega)
  exact many_all this hy
/-- N is M with its states at other places -/
structure Turn2 (pl : List Int) (M N : Mach) : Prop where
  ls : N.ls = M.ls
  os : N.os = M.os
  len : N.rows.length = M.rows.length
  ol : N.outs.length = M.rows.length
  row : ∀ i, i < M.rows.length → N.rows[(pl.getD i 0).toNat]? = some ((M.rows.getD i []).map fun z => pl.getD z.toNat 0)
  out : ∀ i : Nat, i < M.rows.length → N.outs[(pl.getD i 0).toNat]? = some (M.out i)
section
variable {M N : Mach} {pl : List Int}
theorem Turn2.good (t : Turn2 pl M N) (p : Plc M.rows.length pl) (g : Good M) : Good N := by
  have rowOf : ∀ w ∈ N.rows, ∃ i w0, w0 ∈ M.rows ∧ i < M.rows.length ∧ w = w0.map (fun z => pl.getD z.toNat 0) := fun w hw => by
    obtain ⟨y, hy, e⟩ := List.getElem_of_mem hw
    obtain ⟨i, hi, ei⟩ := p.sur (y := y) (by rw [← t.len]; exact hy)
    have := t.row i hi
    rw [ei, Int.toNat_natCast, List.getElem?_eq_getElem hy, e] at this
    refine ⟨i, M.rows[i], List.getElem_mem hi, hi, ?_⟩
    rw [List.getD_eq_getElem?_getD, List.getElem?_eq_getElem hi] at this
    exact Option.some.inj this
  refine ⟨by rw [t.ls]; exact g.l1, by rw [t.ls]; exact g.l4, by rw [t.os]; exact g.o1, by rw [t.os]; exact g.o6, by rw [t.len]; exact g.s1, by rw [t.len]; exact g.s30, by rw [t.ol, t.len], fun w hw => ?_, fun w hw z hz => ?_, fun z hz => ?_⟩
  · obtain ⟨i, w0, h1, h2, rfl⟩ := rowOf w hw
    rw [List.length_map, t.ls]
    exact g.rl w0 h1
  · obtain ⟨i, w0, h1, h2, rfl⟩ := rowOf w hw
    obtain ⟨x, hx, rfl⟩ := List.mem_map.mp hz
    have := g.rb w0 h1 x hx
    obtain ⟨z, _, h2, h3, h4⟩ := p.at (i := x.toNat) (by omega)
    rw [t.len, h2]
    exact ⟨h3, h4⟩
  · obtain ⟨y, hy, e⟩ := List.getElem_of_mem hz
    obtain ⟨i, hi, ei⟩ := p.sur (y := y) (by rw [← t.ol]; exact hy)
    have := t.out i hi
    rw [ei, Int.toNat_natCast, List.getElem?_eq_getElem hy, e] at this
    rw [t.os, Option.some.inj this]
    exact (g.outp (s := (i : Int)) ⟨by omega, by omega⟩).2
theorem Turn2.next (t : Turn2 pl M N) (g : Good M) {s a : Int} (hs : M.St s) (h0 : 0 ≤ a) (h1 : a < M.ls) : N.next (pl.getD s.toNat 0) a = pl.getD (M.next s a).toNat 0 := by
  obtain ⟨_, w, e1, e2⟩ := g.step hs h0 h1
  have s0 := hs.1
  have s1 := hs.2
  have r := t.row s.toNat (by omega)
  have wg : M.rows.getD s.toNat [] = w := by
    rw [List.getD_eq_getElem?_getD, e1]
    rfl
  rw [wg] at r
  have rg : N.rows.getD (pl.getD s.toNat 0).toNat [] = w.map (fun z => pl.getD z.toNat 0) := by
    rw [List.getD_eq_getElem?_getD, r]
    rfl
  show (N.rows.getD (pl.getD s.toNat 0).toNat []).getD a.toNat 0 = _
  rw [rg, List.getD_eq_getElem?_getD, List.getElem?_map, e2]
  rfl
theorem Turn2.run (t : Turn2 pl M N) (g : Good M) : ∀ (v : List Int) (s : Int), M.St s → Lt M.ls v → N.run (pl.getD s.toNat 0) v = pl.getD (M.run s v).toNat 0
  | [], s, _, _ => rfl
  | a :: v, s, hs, hv => by
    have ha := hv a List.mem_cons_self
    show N.run (N.next (pl.getD s.toNat 0) a) v = pl.getD (M.run (M.next s a) v).toNat 0
    rw [t.next g hs ha.1 ha.2]
    exact Turn2.run t g v _ (g.step hs ha.1 ha.2).1 fun z hz => hv z (List.mem_cons_of_mem _ hz)
theorem Turn2.sim (t : Turn2 pl M N) (p : Plc M.rows.length pl) (g : Good M) : Sim M N 0 0 := fun v hv => by
  have r := t.run g v 0 g.st0 hv
  have p0 : pl.getD (0 : Int).toNat 0 = 0 := by rw [List.getD_eq_getElem?_getD]; show (pl[0]?).getD 0 = 0; rw [p.st]; rfl
  rw [p0] at r
  rw [r]
  have st := g.runs g.st0 hv
  have s0 := st.1
  have s1 := st.2
  have o := t.out (M.run 0 v).toNat (by omega)
  rw [show (((M.run 0 v).toNat : Nat) : Int) = M.run 0 v by omega] at o
  show _ = N.outs.getD _ 0
  rw [List.getD_eq_getElem?_getD, o]
  rfl
end
/-- one place more -/
theorem Plc.ins {n : Nat} {pl : List Int} (p : Plc n pl) {i : Nat} (h1 : 1 ≤ i) (h2 : i ≤ n) : Plc (n + 1) (pl.take i ++ (n : Int) :: pl.drop i) := by
  have perm : (pl.take i ++ (n : Int) :: pl.drop i).Perm ((n : Int) :: pl) := by
    have h := List.perm_middle (a := (n : Int)) (l₁ := pl.take i) (l₂ := pl.drop i)
    rwa [List.take_append_drop] at h
  refine ⟨by rw [perm.length_eq, List.length_cons, p.len], fun z hz => ?_, ?_, ?_⟩
  · rcases List.mem_cons.mp (perm.mem_iff.mp hz) with e | e
    · rw [e]
      omega
    · have := p.rg z e
      omega
  · rw [perm.nodup_iff]
    refine List.nodup_cons.mpr ⟨fun hz => ?_, p.nd⟩
    have := p.rg _ hz
    omega
  · rw [List.getElem?_append_left (by rw [List.length_take, p.len]; omega), List.getElem?_take_of_lt (by omega)]
    exact p.st
theorem Plc.one : Plc 1 [0] := ⟨rfl, fun z hz => by rw [List.mem_singleton.mp hz]; decide, by simp, rfl⟩
theorem refs_all : ∀ {vs : List V}, (∀ y, y < vs.length → ∃ r, vs[y]? = some (V.ref r)) → ∃ rs : List Addr, vs = rs.map V.ref
  | [], _ => ⟨[], rfl⟩
  | v :: vs, h => by
    obtain ⟨r, e⟩ := h 0 (by simp)
    obtain ⟨rs, e2⟩ := refs_all (vs := vs) fun y hy => by
      obtain ⟨r, e⟩ := h (y + 1) (by simpa using hy)
      exact ⟨r, by simpa using e⟩
    have e : v = .ref r := by simpa using e
    exact ⟨r :: rs, by rw [e, e2]; rfl⟩
end Mz

set_option Elab.async false
set_option linter.all false
set_option maxRecDepth 100000
set_option maxHeartbeats 4000000
namespace K42
open PySem PySem.Spec PyProof.Rows L2 Mz
abbrev Part := List Int × List (PK × Int)
/-- a part of a machine -/
def PartAt (P : Program) (w : World) (H : Hp) (p : Addr) (x : Part) : Prop := ∃ m d, H p = some (.tup [.ref m, .ref d]) ∧ IT H m x.1 ∧ NestD P w H d x.2
/-- lists may change, nothing else does -/
def LS (H H' : Hp) : Prop := ∀ a o, H a = some o → (∀ xs, o ≠ .lst xs) → H' a = some o
theorem LS.of {H H' : Hp} (s : Same H H') : LS H H' := fun a o h _ => s a o h
theorem LS.lst {H : Hp} {D : Addr} {vs : List V} {o : HO} (h : H D = some (.lst vs)) : LS H (upd H D o) := fun a o e n => (upd_ne fun z => by
  rw [z, h] at e
  exact n _ (Option.some.inj e).symm).trans e
theorem LS.new {H : Hp} {D : Addr} {o : HO} (h : H D = none) : LS H (upd H D o) := fun a o e _ => (upd_ne fun z => by rw [z, h] at e; cases e).trans e
theorem PartAt.ls {P : Program} {w : World} {H H' : Hp} {p : Addr} {x : Part} (s : LS H H') (h : PartAt P w H p x) : PartAt P w H' p x := by
  obtain ⟨m, d, h1, h2, xs, h3, h4, h5⟩ := h
  refine ⟨m, d, s _ _ h1 (fun xs z => by cases z), s _ _ h2 (fun xs z => by cases z), xs, s _ _ h3 (fun xs z => by cases z), fun y hy => ?_, h5⟩
  obtain ⟨b, k1, k2⟩ := h4 y hy
  exact ⟨b, s _ _ k1 (fun xs z => by cases z), s _ _ k2 (fun xs z => by cases z)⟩
theorem Rel.imp {α : Type} {R : Hp → Addr → α → Prop} {H H' : Hp} {ts : List Addr} {xs : List α} (h : Rel R H ts xs) (k : ∀ t x, R H t x → R H' t x) : Rel R H' ts xs := ⟨h.1, fun i t x p q => k _ _ (h.2 i t x p q)⟩
abbrev PartsAt (P : Program) (w : World) := LstOf (PartAt P w)
theorem PartsAt.same {P : Program} {w : World} {H H' : Hp} {q : Addr} {xs : List Part} (h : PartsAt P w H q xs) (s : Same H H') : PartsAt P w H' q xs := by
  obtain ⟨ts, h1, h2⟩ := h
  exact ⟨ts, s _ _ h1, Rel.imp h2 fun t x => PartAt.ls (LS.of s)⟩
theorem PartsAt.push {P : Program} {w : World} {H : Hp} {D t : Addr} {xs : List Part} {x : Part} (h : PartsAt P w H D xs) (e : PartAt P w H t x) : ∃ acc, H D = some (.lst acc) ∧ acc.length = xs.length ∧ PartsAt P w (upd H D (.lst (acc ++ [.ref t]))) D (xs ++ [x]) := by
  obtain ⟨ts, h1, h2⟩ := h
  refine ⟨_, h1, (List.length_map ..).trans h2.1, ts ++ [t], by rw [upd_same, List.map_append]; rfl, ?_⟩
  exact Rel.imp (h2.push e) fun t x => PartAt.ls (LS.lst h1)
theorem maxOr_bd {c : Int} (h0 : 0 ≤ c) {mv : List Int} (h : ∀ z ∈ mv, 0 ≤ z ∧ z ≤ c) : 0 ≤ maxOr 0 mv ∧ maxOr 0 mv ≤ c := by
  cases mv with
  | nil => exact ⟨Int.le_refl _, h0⟩
  | cons a mv =>
    have gen : ∀ (mv : List Int) (a : Int), 0 ≤ a ∧ a ≤ c → (∀ z ∈ mv, 0 ≤ z ∧ z ≤ c) → 0 ≤ mv.foldl max a ∧ mv.foldl max a ≤ c := by
      intro mv
      induction mv with
      | nil => exact fun a h _ => h
      | cons b mv ih =>
        intro a ha hm
        refine ih _ ?_ fun z hz => hm z (List.mem_cons_of_mem _ hz)
        have := hm b List.mem_cons_self
        omega
    exact gen mv a (h a List.mem_cons_self) fun z hz => h z (List.mem_cons_of_mem _ hz)
def maxMet (mv : List Int) : Int := maxOr 0 mv + 1
def tryOn (L : Int) (x : Part) (a : Nat) : Option Part := (moveOn L (x.1 ++ [(a : Int)]) x.2).map fun c => (x.1 ++ [(a : Int)], c)
def longer (L n : Int) (x : Part) : List Part := (List.range (min (maxMet x.1 + 1) n).toNat).filterMap (tryOn L x)
def OkP (L : Int) (x : Part) : Prop := OkM x.1 ∧ x.1.length ≤ 20 ∧ OkC L x.2
def spLonger (P : Program) (w : World) : Sp := fun vs H Q _ => ∃ (L n : Int) (p : Addr) (x : Part), vs = [.int L, .int n, .ref p] ∧ PartAt P w H p x ∧ 1 ≤ L ∧ L ≤ 4 ∧ 1 ≤ n ∧ n ≤ 4 ∧ OkP L x ∧
  ∀ (H' : Hp) (q : Addr), Same H H' → H q = none → LstOf (PartAt P w) H' q (longer L n x) → Q (.ref q) H'
section
variable {P : Program} {w : World} {K : PySem.W.Frag} {mg : Str → Option Value} {base : Heap} {A : Ads}
theorem ok_longer (T : Txt K mg A) (H_move_on : FnOk P w K mg base CX0 1 A.a_move_on A.d_move_on ["letters", "moves", "claims"] (spMoveOn P w)) : FnOk P w K mg base CX0 2 A.a_longer_parts A.d_longer_parts ["letters", "states", "part"] (spLonger P w) := by
  refine T.F_longer_parts.ok sc_longer_parts (fun vs H Q E h => ?_) (fun cdv Ar outer s H vs Q E hr h => ?_)
  · obtain ⟨_, _, _, _, rfl, _⟩ := h
    rfl
  · have hr_move_on : Room 1 _ := hr
    have G_move_on := H_move_on
    refine ⟨_, (pss_cons (ps_asg (pv 2) (pg_tup rfl (pgs_cons (pg_name (i := 3) sc_longer_parts.nd rfl (Or.inl rfl)) (pgs_cons (pg_name (i := 4) sc_longer_parts.nd rfl (Or.inl rfl)) pgs_nil))))
      (pss_cons (ps_set (i := 5) sc_longer_parts.nd rfl (Or.inl rfl) (pe_op op_add (pe_callBK (cr_maxD rfl hr.units) (by rfl) T.n_max (by decide +kernel) (pa_cons (pv 3) pa_nil) (pk_cons pe_int pk_nil)) pe_int))
      (pss_cons (ps_set (i := 6) sc_longer_parts.nd rfl (Or.inl rfl) (pe_lst pa_nil))
      (pss_cons (ps_for PassesOwn.never rfl (pi_range1 (by rfl) T.n_range (pa_cons (pe_callB (call_min2 rfl) (by rfl) T.n_min (by decide +kernel) (pa_cons (pe_op op_add (pv 5) pe_int) (pa_cons (pv 1) pa_nil))) pa_nil)) (pg_name (i := 7) sc_longer_parts.nd rfl (Or.inl rfl))
        (pss_cons (ps_set (i := 8) sc_longer_parts.nd rfl (Or.inl rfl) (pe_op (r := rCatA K) op_catA (pv 3) (pe_tup (pa_cons (pv 7) pa_nil))))
          (pss_cons (ps_set (i := 9) sc_longer_parts.nd rfl (Or.inl rfl) (pe_call G_move_on hr_move_on (by rfl) T.g_move_on T.F_move_on.kp T.b_move_on .nil pass0 (pa_cons (pv 0) (pa_cons (pv 8) (pa_cons (pv 4) pa_nil)))))
          (pss_one (ps_if (pt_cmpR op_notN (pv 9) pe_non (nomark _)) (pss_one (ps_expr (pe_bm PySem.F.plainAttrs_list PySem.F.slot_list_append PySem.F.type_list_append mt_append (pv 6) (pa_cons (pe_tup (pa_cons (pv 8) (pa_cons (pv 9) pa_nil))) pa_nil)))) pss_nil)))))
      (pss_one (ps_ret (pv 6))))))), ?_⟩
    obtain ⟨L, n, p, x, rfl, hp, L1, L4, n1, n4, okP, f⟩ := h
    obtain ⟨mv, cl⟩ := x
    obtain ⟨m, d, ep, hm, hd⟩ := hp
    have hm : IT H m mv := hm
    have hd : NestD P w H d cl := hd
    obtain ⟨okM, l20, okC⟩ := okP
    have okM : OkM mv := okM
    have okC : OkC L cl := okC
    have l20 : mv.length ≤ 20 := l20
    have bd := maxOr_bd (c := 100) (by decide) okM.2
    have mm : (if n < maxOr 0 mv + 1 + 1 then n else maxOr 0 mv + 1 + 1) = (((min (maxMet mv + 1) n).toNat : Nat) : Int) := by
      unfold maxMet
      split <;> omega
    refine ⟨_, rfl, p, _, rfl, SqT.of ep, rfl, _, _, rfl, _, _, rfl, rfl, ?_⟩
    refine ⟨_, rfl, m, _, mv, rfl, rfl, SqT.of hm, _, _, rfl, rfl, Nat.zero_le _, fun D hD => ?_⟩
    have sD := same_upd (o := .lst []) (Same.refl H) hD
    refine ⟨_, rfl, _, _, rfl, rfl, _, rfl, _, _, rfl, ?_⟩
    refine ⟨((min (maxMet mv + 1) n).toNat : Nat), congrArg (fun z => [V.int z]) mm, by omega, by omega, ?_⟩
    refine for_range (n := (min (maxMet mv + 1) n).toNat) (fun k σ H' => ∃ (v7 v8 v9 : Option V) (ys : List Part), σ = [some (.int L), some (.int n), some (.ref p), some (.ref m), some (.ref d), some (.int (maxMet mv)), some (.ref D), v7, v8, v9] ∧ Same H H' ∧ PartsAt P w H' D ys ∧ ys = (List.range k).filterMap (tryOn L (mv, cl)))
      ⟨_, _, _, [], rfl, sD, LstOf.nil upd_same, rfl⟩ ?_ ?_
    · rintro k σ H1 hk ⟨v7, v8, v9, ys, rfl, s1, l1, ey⟩
      have ek : (0 : Int) + (k : Int) = (k : Int) := by omega
      dsimp only [List.set]
      rw [ek]
      have hys : ys.length ≤ k := by
        rw [ey]
        exact Nat.le_trans (List.length_filterMap_le ..) (by rw [List.length_range]; exact Nat.le_refl _)
      have ey2 : (List.range (k + 1)).filterMap (tryOn L (mv, cl)) = ys ++ (match tryOn L (mv, cl) k with | none => [] | some y => [y]) := by
        rw [List.range_succ, List.filterMap_append, ← ey, List.filterMap_cons, List.filterMap_nil]
        cases tryOn L (mv, cl) k <;> rfl
      refine ⟨_, rfl, _, rfl, (by show 1 ≤ sizeLine; decide), fun u hu => ?_⟩
      have s2 := same_upd (o := .tup [.int (k : Int)]) (Same.refl H1) hu
      have eu : (upd H1 u (.tup [.int (k : Int)])) u = some (.tup [.int (k : Int)]) := upd_same
      generalize upd H1 u (.tup [.int (k : Int)]) = H2 at *
      have hm2 := s2 _ _ (s1 _ _ hm)
      refine catA_any hm2 eu (Nat.le_trans (by simp; omega : _ ≤ 1000) (by decide)) fun H3 r s3 er => ?_
      have er : IT H3 r (mv ++ [(k : Int)]) := by
        show H3 r = some (.tup ((mv ++ [(k : Int)]).map V.int))
        rw [List.map_append]
        exact er
      have s13 := s2.trans s3
      have s03 := s1.trans s13
      have okm2 : OkM (mv ++ [(k : Int)]) := ⟨by rw [List.length_append, List.length_singleton]; omega, fun z hz => by
        rcases List.mem_append.1 hz with h | h
        · exact okM.2 z h
        · rw [List.mem_singleton.1 h]
          omega⟩
      refine ⟨_, rfl, _, rfl, _, rfl, ?_⟩
      refine ⟨L, r, d, mv ++ [(k : Int)], cl, rfl, er, hd.same s03, L1, L4, okm2, okC, fun e H4 s4 => ?_, fun c e H4 q s4 hq => ?_⟩
      · have te : tryOn L (mv, cl) k = none := by
          unfold tryOn
          rw [e]
          rfl
        rw [te, List.append_nil] at ey2
        refine ⟨_, rfl, rfl, _, rfl, iteN2 (fun c1 => absurd rfl c1) (fun _ => ?_)⟩
        exact ⟨_, _, _, ys, rfl, s03.trans s4, l1.same (s13.trans s4), ey2.symm⟩
      · have te : tryOn L (mv, cl) k = some (mv ++ [(k : Int)], c) := by
          unfold tryOn
          rw [e]
          rfl
        rw [te] at ey2
        refine ⟨_, rfl, rfl, _, rfl, iteN2 (fun _ => ?_) (fun c1 => by cases c1)⟩
        have l4 := l1.same (s13.trans s4)
        obtain ⟨ts4, e4, _⟩ := id l4
        refine ⟨_, rfl, .inl ⟨rfl, _, SqL.of e4⟩, _, rfl, _, rfl, (by show 2 ≤ sizeLine; decide), fun t ht => ?_⟩
        have s5 := same_upd (o := .tup [.ref r, .ref q]) (Same.refl H4) ht
        have et : (upd H4 t (.tup [.ref r, .ref q])) t = some (.tup [.ref r, .ref q]) := upd_same
        generalize upd H4 t (.tup [.ref r, .ref q]) = H5 at *
        have s15 := s13.trans (s4.trans s5)
        have pt : PartAt P w H5 t (mv ++ [(k : Int)], c) := ⟨r, q, et, (s4.trans s5) _ _ er, hq.same s5⟩
        obtain ⟨acc, ea, la, l6⟩ := (l1.same s15).push pt
        exact ⟨D, acc, _, rfl, rfl, ea, Nat.lt_of_le_of_lt (by rw [la]; omega : acc.length ≤ 1000) (by decide), _, _, _, _, rfl, same_set (s1.trans s15) hD, l6, ey2.symm⟩
    · rintro σ H1 ⟨v7, v8, v9, ys, rfl, s1, l1, ey⟩
      refine ⟨_, rfl, f _ _ s1 hD ?_⟩
      rw [ey] at l1
      exact l1
end
end K42

set_option Elab.async false
set_option linter.all false
set_option maxRecDepth 100000
set_option maxHeartbeats 4000000
namespace K42
open PySem PySem.Spec PyProof.Rows L2 L2H Mz
/-- a log: words and outputs -/
abbrev Log := List (List Int × Int)
def RowAt (H : Hp) (t : Addr) (x : List Int × Int) : Prop := ∃ a, H t = some (.tup [.ref a, .int x.2]) ∧ H a = some (.lst (x.1.map V.int))
def LogAt (H : Hp) (l : Addr) (log : Log) : Prop := ∃ ts : List Addr, H l = some (.lst (ts.map V.ref)) ∧ Rel RowAt H ts log
theorem RowAt.same {H H' : Hp} {t : Addr} {x : List Int × Int} (s : Same H H') (h : RowAt H t x) : RowAt H' t x := let ⟨a, h1, h2⟩ := h; ⟨a, s _ _ h1, s _ _ h2⟩
theorem LogAt.same {H H' : Hp} {l : Addr} {log : Log} (h : LogAt H l log) (s : Same H H') : LogAt H' l log := let ⟨ts, h1, h2⟩ := h; ⟨ts, s _ _ h1, Rel.imp h2 fun _ _ => RowAt.same s⟩
def startOf (log : Log) : List (PK × Int) := log.foldl (fun acc r => if findK acc (0, r.1) = none then acc ++ [((0, r.1), r.2)] else acc) []
/-- no word has two outputs -/
def Clean (log : Log) : Prop := ∀ r ∈ log, ∀ q ∈ log, r.1 = q.1 → r.2 = q.2
def parts (L n : Int) (log : Log) (k : Nat) : List Part := Nat.repeat (fun ps => ps.flatMap (longer L n)) k [([], startOf log)]
/-- the parts with the fewest states that a log leaves, with at most four -/
def least (L : Int) (log : Log) : Nat → Nat → Option (List Part)
  | 0, _ => none
  | f + 1, n => match parts L n log (n * L.toNat) with
    | [] => least L log f (n + 1)
    | p :: ps => some (p :: ps)
def OkLog (L : Int) (log : Log) : Prop := log.length ≤ 30 ∧ Clean log ∧ ∀ r ∈ log, Lt L r.1 ∧ r.1.length ≤ 10
theorem adv_ok {L : Int} {mv : List Int} (hm : OkM mv) : ∀ {r : List Int} {s : Int}, 0 ≤ s → s ≤ 100 → Lt L r → (0 ≤ (adv L mv s r).1 ∧ (adv L mv s r).1 ≤ 100 ∧ Lt L (adv L mv s r).2 ∧ (adv L mv s r).2.length ≤ r.length)
  | [], s, h0, h1, hr => ⟨h0, h1, hr, Nat.le_refl _⟩
  | a :: r, s, h0, h1, hr => by
    have ha := hr a List.mem_cons_self
    have hr2 : Lt L r := fun z hz => hr z (List.mem_cons_of_mem _ hz)
    unfold adv
    split
    · rename_i c
      have pL : 0 ≤ s * L := Int.mul_nonneg h0 (by omega)
      have lt : (s * L + a).toNat < mv.length := by omega
      have gd : mv.getD (s * L + a).toNat 0 = mv[(s * L + a).toNat] := by
        rw [List.getD_eq_getElem?_getD, List.getElem?_eq_getElem lt]
        rfl
      have nb := hm.2 _ (List.getElem_mem lt)
      rw [gd]
      obtain ⟨h3, h4, h5, h6⟩ := adv_ok hm nb.1 nb.2 hr2
      exact ⟨h3, h4, h5, Nat.le_succ_of_le h6⟩
    · exact ⟨h0, h1, hr, Nat.le_refl _⟩
theorem put1_mem {acc a : List (PK × Int)} {k : PK} {o : Int} (h : put1 acc k o = some a) : ∀ kv ∈ a, kv ∈ acc ∨ kv = (k, o) := by
  unfold put1 at h
  split at h
  · cases h
    intro kv hkv
    rcases List.mem_append.1 hkv with c | c
    · exact .inl c
    · exact .inr (List.mem_singleton.1 c)
  · split at h
    · cases h
      exact fun kv h => .inl h
    · cases h
theorem moveOn_ok {L : Int} {mv : List Int} {cl c : List (PK × Int)} (hm : OkM mv) (hc : OkC L cl) (h : moveOn L mv cl = some c) : OkC L c := by
  refine ⟨Nat.le_trans (move_len h) hc.1, ?_⟩
  have gen : ∀ (ds es : List (PK × Int)), (∀ kv ∈ ds, 0 ≤ kv.1.1 ∧ kv.1.1 ≤ 100 ∧ Lt L kv.1.2 ∧ kv.1.2.length ≤ 1000) → ∀ c, moveOn L mv ds = some c → ∀ kv ∈ c, 0 ≤ kv.1.1 ∧ kv.1.1 ≤ 100 ∧ Lt L kv.1.2 ∧ kv.1.2.length ≤ 1000 := by
    intro ds _
    have : ∀ n (ds : List (PK × Int)), ds.length = n → (∀ kv ∈ ds, 0 ≤ kv.1.1 ∧ kv.1.1 ≤ 100 ∧ Lt L kv.1.2 ∧ kv.1.2.length ≤ 1000) → ∀ c, moveOn L mv ds = some c → ∀ kv ∈ c, 0 ≤ kv.1.1 ∧ kv.1.1 ≤ 100 ∧ Lt L kv.1.2 ∧ kv.1.2.length ≤ 1000 := by
      intro n
      induction n with
      | zero =>
        intro ds e _ c h kv hkv
        rw [List.length_eq_zero_iff.1 e] at h
        cases h
        cases hkv
      | succ n ih =>
        intro ds e hd c h kv hkv
        have ne : ds ≠ [] := fun z => by rw [z] at e; cases e
        rw [← List.dropLast_concat_getLast ne, move_snoc] at h
        obtain ⟨a, h1, h2⟩ := Option.bind_eq_some_iff.1 h
        have ld : ds.dropLast.length = n := by rw [List.length_dropLast]; omega
        rcases put1_mem h2 kv hkv with c1 | c1
        · exact ih ds.dropLast ld (fun kv hk => hd kv (List.dropLast_subset _ hk)) a h1 kv c1
        · have hl := hd _ (List.getLast_mem ne)
          have := adv_ok hm hl.1 hl.2.1 hl.2.2.1
          rw [c1]
          exact ⟨this.1, this.2.1, this.2.2.1, Nat.le_trans this.2.2.2 hl.2.2.2⟩
    exact this ds.length ds rfl
  exact gen cl [] hc.2 c h
theorem longer_ok {L n : Int} {x y : Part} (n1 : n ≤ 4) (hx : OkP L x) (h : y ∈ longer L n x) : y.1.length = x.1.length + 1 ∧ OkM y.1 ∧ OkC L y.2 := by
  obtain ⟨a, ha, h2⟩ := List.mem_filterMap.1 h
  have ha := List.mem_range.1 ha
  obtain ⟨c, h3, rfl⟩ := Option.map_eq_some_iff.1 h2
  have hl := hx.2.1
  have om : OkM (x.1 ++ [(a : Int)]) := ⟨by rw [List.length_append, List.length_singleton]; omega, fun z hz => by
    rcases List.mem_append.1 hz with c | c
    · exact hx.1.2 z c
    · rw [List.mem_singleton.1 c]
      omega⟩
  exact ⟨List.length_append .., om, moveOn_ok om hx.2.2 h3⟩
theorem longer_len {L n : Int} {x : Part} (n1 : n ≤ 4) : (longer L n x).length ≤ 4 := by
  unfold longer
  refine Nat.le_trans (List.length_filterMap_le ..) ?_
  rw [List.length_range]
  omega
theorem flat_len {α β : Type} {f : α → List β} {c : Nat} : ∀ {xs : List α}, (∀ x ∈ xs, (f x).length ≤ c) → (xs.flatMap f).length ≤ xs.length * c
  | [], _ => by simp
  | x :: xs, h => by
    rw [List.flatMap_cons, List.length_append, List.length_cons, Nat.succ_mul]
    have := h x List.mem_cons_self
    have := flat_len (f := f) (c := c) (xs := xs) fun y hy => h y (List.mem_cons_of_mem _ hy)
    omega
theorem start_gen {L : Int} {log : Log} : ∀ (rs : Log) (acc : List (PK × Int)), (∀ r ∈ rs, Lt L r.1 ∧ r.1.length ≤ 10) → (∀ kv ∈ acc, 0 ≤ kv.1.1 ∧ kv.1.1 ≤ 100 ∧ Lt L kv.1.2 ∧ kv.1.2.length ≤ 1000) →
    (rs.foldl (fun acc r => if findK acc (0, r.1) = none then acc ++ [((0, r.1), r.2)] else acc) acc).length ≤ acc.length + rs.length ∧ ∀ kv ∈ rs.foldl (fun acc r => if findK acc (0, r.1) = none then acc ++ [((0, r.1), r.2)] else acc) acc, 0 ≤ kv.1.1 ∧ kv.1.1 ≤ 100 ∧ Lt L kv.1.2 ∧ kv.1.2.length ≤ 1000
  | [], acc, _, h => ⟨Nat.le_refl _, h⟩
  | r :: rs, acc, hr, h => by
    rw [List.foldl_cons]
    have h1 := hr r List.mem_cons_self
    have h2 : ∀ r ∈ rs, Lt L r.1 ∧ r.1.length ≤ 10 := fun y hy => hr y (List.mem_cons_of_mem _ hy)
    by_cases c : findK acc (0, r.1) = none
    · rw [if_pos c]
      have := start_gen (log := log) rs (acc ++ [((0, r.1), r.2)]) h2 fun kv hkv => by
        rcases List.mem_append.1 hkv with d | d
        · exact h kv d
        · rw [List.mem_singleton.1 d]
          exact ⟨Int.le_refl _, (by show (0 : Int) ≤ 100; decide), h1.1, Nat.le_trans h1.2 (by decide)⟩
      refine ⟨Nat.le_trans this.1 ?_, this.2⟩
      rw [List.length_append, List.length_singleton, List.length_cons]
      omega
    · rw [if_neg c]
      have := start_gen (log := log) rs acc h2 h
      refine ⟨Nat.le_trans this.1 ?_, this.2⟩
      rw [List.length_cons]
      omega
theorem start_ok {L : Int} {log : Log} (h : OkLog L log) : OkC L (startOf log) := by
  have := start_gen (L := L) (log := log) log [] h.2.2 (fun kv h => absurd h (by simp))
  exact ⟨Nat.le_trans this.1 (by have := h.1; simp; omega), this.2⟩
theorem parts_ok {L n : Int} {log : Log} (n1 : n ≤ 4) (h : OkLog L log) : ∀ {k : Nat}, k ≤ 8 → (parts L n log k).length ≤ 4 ^ k ∧ ∀ x ∈ parts L n log k, x.1.length = k ∧ OkM x.1 ∧ OkC L x.2
  | 0, _ => ⟨Nat.le_refl _, fun x hx => by
    rw [List.mem_singleton.1 hx]
    exact ⟨rfl, ⟨Nat.zero_le _, fun z hz => absurd hz (by simp)⟩, start_ok h⟩⟩
  | k + 1, hk => by
    obtain ⟨h1, h2⟩ := parts_ok n1 h (k := k) (by omega)
    have e : parts L n log (k + 1) = (parts L n log k).flatMap (longer L n) := rfl
    rw [e]
    refine ⟨?_, fun y hy => ?_⟩
    · have := flat_len (f := longer L n) (c := 4) (xs := parts L n log k) fun x _ => longer_len n1
      rw [Nat.pow_succ]
      omega
    · obtain ⟨x, hx, hy⟩ := List.mem_flatMap.1 hy
      obtain ⟨h3, h4, h5⟩ := h2 x hx
      have := longer_ok n1 ⟨h4, by omega, h5⟩ hy
      exact ⟨by rw [this.1, h3], this.2⟩
theorem find_mem {kvs : List (PK × Int)} {p : PK} {v : Int} (h : findK kvs p = some v) : (p, v) ∈ kvs := by
  unfold findK at h
  obtain ⟨kv, h1, rfl⟩ := Option.map_eq_some_iff.1 h
  have h2 := of_decide_eq_true (show decide (kv.1 = p) = true from @List.find?_some _ (fun kv : PK × Int => decide (kv.1 = p)) _ _ h1)
  rw [← h2]
  exact List.mem_of_find?_eq_some h1
theorem start_snoc {log : Log} {r : List Int × Int} : startOf (log ++ [r]) = if findK (startOf log) (0, r.1) = none then startOf log ++ [((0, r.1), r.2)] else startOf log := by
  unfold startOf
  rw [List.foldl_append]
  rfl
theorem start_mem {log : Log} : ∀ i, i ≤ log.length → ∀ kv ∈ startOf (log.take i), ∃ r ∈ log, kv = ((0, r.1), r.2)
  | 0, _, kv, h => by cases h
  | i + 1, hi, kv, h => by
    have er := List.getElem?_eq_getElem (show i < log.length by omega)
    rw [take_more er, start_snoc] at h
    split at h
    · rcases List.mem_append.1 h with c | c
      · exact start_mem i (by omega) kv c
      · exact ⟨_, List.getElem_mem _, List.mem_singleton.1 c⟩
    · exact start_mem i (by omega) kv h
def spParts (P : Program) (w : World) (A : Ads) : Sp := fun vs H Q E => ∃ (L : Int) (l : Addr) (log : Log), vs = [.int L, .ref l] ∧ LogAt H l log ∧ 1 ≤ L ∧ L ≤ 2 ∧ OkLog L log ∧
  (∀ ps, least L log 4 1 = some ps → ∀ (H' : Hp) (q : Addr), Same H H' → PartsAt P w H' q ps → Q (.ref q) H') ∧
  (least L log 4 1 = none → ∀ H', Same H H' → E (.ref A.a_Missing) none H')
section
variable {P : Program} {w : World} {K : PySem.W.Frag} {mg : Str → Option Value} {base : Heap} {A : Ads}
theorem ok_parts (T : Txt K mg A) (H_longer_parts : FnOk P w K mg base CX0 2 A.a_longer_parts A.d_longer_parts ["letters", "states", "part"] (spLonger P w)) : FnOk P w K mg base (L2N.CX P w) 3 A.a_smallest_parts A.d_smallest_parts ["letters", "log"] (spParts P w A) := by
  refine okN T.F_smallest_parts sc_smallest_parts (fun vs H Q E h => ?_) (fun cdv Ar outer s H vs Q E hr h => ?_)
  · obtain ⟨_, _, _, rfl, _⟩ := h
    rfl
  · have hr_longer_parts : Room 2 _ := hr
    have G_longer_parts := H_longer_parts
    refine ⟨_, (pss_cons (ps_compN (P := P) (w := w) (i := 2) (own := [("word", 6), ("output", 7)]) (g := (gTup K 2 (gCons (gName 6) (gCons (gName 7) gNil)))) (tt := tYes) rfl rfl rfl rfl (sw_trueD rfl rfl rfl (by decide +kernel)) (hu10 hr) rfl sc_smallest_parts.nd (pi_list (pv 1)) (blkOk_by (N := ["letters", "log", "claims", "states", "parts", "_", "word", "output", "part", "longer"]) (sc := defScope s_smallest_parts) (by decide +kernel)) (fun _ _ _ _ _ => (pg_tup rfl (pgs_cons (pg_name (i := 6) sc_smallest_parts.nd rfl (Or.inl rfl)) (pgs_cons (pg_name (i := 7) sc_smallest_parts.nd rfl (Or.inl rfl)) pgs_nil)))) (fun _ _ _ _ _ => pts_nil) (fun _ _ _ _ _ => (pe_tup (pa_cons pe_int (pa_cons (pe_callTy (r := rTof K) (T := "tuple") call_tof (by rfl) T.n_tuple (by decide +kernel) (pa_cons (pv 6) pa_nil)) pa_nil)))) (fun _ _ _ _ _ => (pv 7)))
      (pss_cons (ps_for (passes_of rfl) rfl (pi_range2 (by rfl) T.n_range (pa_cons pe_int (pa_cons (pe_op op_add (C8.pe_gc (v := .int 4) (by rfl) T.c_MAX_SMALL) pe_int) pa_nil))) (pg_name (i := 3) sc_smallest_parts.nd rfl (Or.inr rfl))
        (pss_cons (ps_set (i := 4) sc_smallest_parts.nd rfl (Or.inl rfl) (pe_lst (pa_cons (pe_tup (pa_cons (pe_tup pa_nil) (pa_cons (pv 2) pa_nil))) pa_nil)))
          (pss_cons (ps_for (passes_of rfl) rfl (pi_range1 (by rfl) T.n_range (pa_cons (pe_op op_mul (pv 3) (pv 0)) pa_nil)) (pg_name (i := 5) sc_smallest_parts.nd rfl (Or.inl rfl))
            (pss_one (ps_setLc2 (i := 4) (own := [("part", 8), ("longer", 9)]) (vs1 := [9]) (g := (gName 8)) (g1 := (gName 9)) (tt := tYes) (tt1 := tYes) (wi1 := iList K (tCall (spLonger P w) [] E0 (tCons (tVar 0) (tCons (tVar 3) (tCons (tVar 8) tNil))))) rfl sc_smallest_parts.nd rfl rfl (sw_true rfl rfl rfl (by decide +kernel)) (pi_list (pv 4)) (blkOk_by (N := ["letters", "log", "claims", "states", "parts", "_", "word", "output", "part", "longer"]) (sc := defScope s_smallest_parts) (by decide +kernel)) (by decide) (fun _ _ _ _ _ => (pg_name (i := 8) sc_smallest_parts.nd rfl (Or.inl rfl))) (fun _ _ _ _ _ => pts_nil) (fun _ _ _ _ _ => (pi_list (pe_call G_longer_parts hr_longer_parts (by rfl) T.g_longer_parts T.F_longer_parts.kp T.b_longer_parts .nil pass0 (pa_cons (pv 0) (pa_cons (pv 3) (pa_cons (pv 8) pa_nil)))))) (fun _ _ _ _ _ => (pg_name (i := 9) sc_smallest_parts.nd rfl (Or.inl rfl))) (fun _ _ _ _ _ => pts_nil) (fun _ _ _ _ _ => (pv 9)))))
          (pss_one (ps_if (pt_truth (pv 4) (by intro _; rfl)) (pss_one (ps_ret (pv 4))) pss_nil)))))
      (pss_one (L2N.ps_raise rfl (L2N.takes_of rfl rfl rfl rfl) (pmk_any PySem.F.excBase_ValueError T.x_Missing T.g_Missing T.k_Missing (raises_own T.sb_Missing T.ty_Missing) (by rfl) (pa_cons (pe_joined (.cons pe_str (.cons (pe_fmt (C8.pe_gc (v := .int 4) (by rfl) T.c_MAX_SMALL)) (.cons pe_str .nil)))) pa_nil)))))), ?_⟩
    obtain ⟨L, l, log, rfl, hl, L1, L2, okL, f, g⟩ := h
    obtain ⟨ts, el, rl⟩ := id hl
    have lt := rl.1
    refine ⟨_, rfl, l, rfl, ⟨_, SqL.of el⟩, fun D hD => ?_⟩
    have nD0 : NestD P w (upd H D (NestO P w D [])) D [] := ⟨[], upd_same, fun x hx => absurd hx (by simp), .nil⟩
    refine it_any walk_list (fun i H' => NestD P w H' D (startOf (log.take i)) ∧ Same H H') ⟨nD0, same_upd (Same.refl _) hD⟩ (fun i H' _ z => SqL.of (z.2 _ _ el)) ?_ ?_
    · rintro i x H2x H2 hi ⟨n2, s2⟩ ⟨rfl, hx⟩
      obtain ⟨t, ht, rfl⟩ := ofV hx
      obtain ⟨⟨wd, o⟩, er, a, et, ea⟩ := rl.to ht
      have et := s2 _ _ et
      have ea := s2 _ _ ea
      have hi : i < log.length := by
        rw [List.length_map, lt] at hi
        exact hi
      have okr := okL.2.2 _ (List.mem_of_getElem? er)
      refine ⟨t, _, rfl, SqT.of et, rfl, _, _, rfl, _, _, rfl, rfl, rfl, ?_⟩
      refine ⟨_, rfl, a, _, rfl, .inl ⟨SqL.of ea, fun u hu => ?_⟩⟩
      have s3 := same_upd (o := .tup (wd.map V.int)) (Same.refl H2) hu
      have eu : (upd H2 u (.tup (wd.map V.int))) u = some (.tup (wd.map V.int)) := upd_same
      generalize upd H2 u (.tup (wd.map V.int)) = H3 at *
      refine ⟨(by show 2 ≤ sizeLine; decide), fun kt hkt => ?_⟩
      have s4 := same_upd (o := .tup [.int 0, .ref u]) (Same.refl H3) hkt
      have ekt : (upd H3 kt (.tup [.int 0, .ref u])) kt = some (.tup [.int 0, .ref u]) := upd_same
      generalize upd H3 kt (.tup [.int 0, .ref u]) = H4 at *
      have s24 := s3.trans s4
      have eu4 := s4 _ _ eu
      have nn : startOf (log.take (i + 1)) = if findK (startOf (log.take i)) (0, wd) = none then startOf (log.take i) ++ [((0, wd), o)] else startOf (log.take i) := by
        rw [take_more er, start_snoc]
      have ll : (startOf (log.take i)).length ≤ 1000 := (start_ok ⟨by rw [List.length_take]; have := okL.1; omega, fun r hr q hq => okL.2.1 r (List.mem_of_mem_take hr) q (List.mem_of_mem_take hq), fun r hr => okL.2.2 r (List.mem_of_mem_take hr)⟩ : OkC L (startOf (log.take i))).1
      refine ⟨_, rfl, startOf (log.take i), (0, wd), o, kt, rfl, rfl, ⟨u, ekt, eu4⟩, n2.same s24, Nat.lt_of_le_of_lt ll (by decide), ?_, fun xs n5 => ⟨?_, ?_⟩⟩
      · cases e : findK (startOf (log.take i)) (0, wd) with
        | none => exact .inl rfl
        | some v =>
          obtain ⟨r, hr, e2⟩ := start_mem (log := log) i (by omega) _ (find_mem e)
          have e3 : wd = r.1 := congrArg (fun z => z.1.2) e2
          have e4 : v = r.2 := congrArg (fun z => z.2) e2
          refine .inr ?_
          rw [e4, okL.2.1 r hr (wd, o) (List.mem_of_getElem? er) e3.symm]
      · rw [nn]
        exact n5
      · exact same_set (s2.trans s24) hD
    · rintro H2 ⟨n2, s2⟩
      rw [List.length_map, lt, List.take_length] at n2
      refine ⟨4, 1, rfl, rfl, 1, 5, rfl, ⟨by decide, by decide, by decide, by decide⟩, for_range (lo := 1) (n := 4) (fun i σ H' => ∃ (v3 v4 v5 : Option V), σ = [some (.int L), some (.ref l), some (.ref D), v3, v4, v5, none, none, none, none] ∧ Same H H' ∧ NestD P w H' D (startOf log) ∧ least L log 4 1 = least L log (4 - i) (1 + i)) ⟨_, _, _, rfl, s2, n2, rfl⟩ ?_ ?_⟩
      · rintro i σ H3 hi ⟨v3, v4, v5, rfl, s3, n3, le⟩
        obtain ⟨n, en, n1, n4⟩ : ∃ n : Int, n = (1 : Int) + (i : Int) ∧ 1 ≤ n ∧ n ≤ 4 := ⟨_, rfl, by omega, by omega⟩
        obtain ⟨k, ek, k8⟩ : ∃ k : Nat, k = ((1 + i) * L.toNat : Nat) ∧ k ≤ 8 := ⟨_, rfl, by
          have : (1 + i) * L.toNat ≤ 4 * 2 := Nat.mul_le_mul (by omega) (by omega)
          omega⟩
        have enk : n * L = (k : Int) := by
          rw [ek, en, Int.natCast_mul, Int.toNat_of_nonneg (by omega)]
          congr 1
        have e4 : least L log (4 - i) (1 + i) = match parts L n log k with
            | [] => least L log (4 - (i + 1)) (1 + (i + 1))
            | p :: ps => some (p :: ps) := by
          obtain ⟨f, ef⟩ : ∃ f, 4 - i = f + 1 := ⟨3 - i, by omega⟩
          have ef2 : 4 - (i + 1) = f := by omega
          have ec : ((1 + i : Nat) : Int) = n := by omega
          rw [ef, ef2, ek, ← ec]
          rfl
        dsimp only [List.set]
        rw [← en]
        refine ⟨(by show 0 ≤ sizeLine; decide), fun u hu => ?_⟩
        have s4 := same_upd (o := .tup []) (Same.refl H3) hu
        have eu : (upd H3 u (.tup [])) u = some (.tup []) := upd_same
        generalize upd H3 u (.tup []) = H4 at *
        refine ⟨_, rfl, (by show 2 ≤ sizeLine; decide), fun t ht => ?_⟩
        have s5 := same_upd (o := .tup [.ref u, .ref D]) (Same.refl H4) ht
        have et : (upd H4 t (.tup [.ref u, .ref D])) t = some (.tup [.ref u, .ref D]) := upd_same
        generalize upd H4 t (.tup [.ref u, .ref D]) = H5 at *
        refine ⟨(by show 1 ≤ sizeLine; decide), fun q hq => ?_⟩
        have s6 := same_upd (o := .lst [.ref t]) (Same.refl H5) hq
        have eq6 : (upd H5 q (.lst [.ref t])) q = some (.lst [.ref t]) := upd_same
        generalize upd H5 q (.lst [.ref t]) = H6 at *
        have s36 := s4.trans (s5.trans s6)
        have p0 : PartsAt P w H6 q (parts L n log 0) := ⟨[t], eq6, rfl, fun j a x h1 h2 => by
          match j, h1, h2 with
          | 0, h1, h2 =>
            cases h1
            cases h2
            exact ⟨u, D, s6 _ _ et, (s5.trans s6) _ _ eu, n3.same s36⟩⟩
        have ok := fun {j : Nat} (hj : j ≤ 8) => parts_ok (L := L) (n := n) (log := log) n4 okL hj
        refine ⟨_, rfl, _, rfl, _, _, rfl, rfl, .inl ⟨by omega, by omega⟩, (k : Int), congrArg (fun z => [V.int z]) enk, by omega, by omega, ?_⟩
        refine for_range (n := k) (fun j σ H' => ∃ (q : Addr) (v5 : Option V), σ = [some (.int L), some (.ref l), some (.ref D), some (.int n), some (.ref q), v5, none, none, none, none] ∧ Same H3 H' ∧ PartsAt P w H' q (parts L n log j)) ⟨q, _, rfl, s36, p0⟩ ?_ ?_
        · clear p0 eq6 et eu hq ht hu s36 s4 s5 s6 v5 v3 v4
          rintro j σ H7 hj ⟨q, v5, rfl, s7, ts7, eq7, rl7⟩
          obtain ⟨okl, okp⟩ := ok (j := j) (by omega)
          have pw : 4 ^ j ≤ 4 ^ 7 := Nat.pow_le_pow_right (by decide) (by omega)
          refine ⟨_, rfl, q, rfl, ⟨_, SqL.of eq7⟩, fun D2 hD2 => ?_⟩
          refine it_any walk_list (fun a H' => Same H7 H' ∧ PartsAt P w H' D2 (((parts L n log j).take a).flatMap (longer L n))) ⟨same_upd (Same.refl _) hD2, LstOf.nil upd_same⟩ (fun a H' _ z => SqL.of (z.1 _ _ eq7)) ?_ ?_
          · rintro a x H8x H8 ha ⟨s8, l8⟩ ⟨rfl, hx⟩
            obtain ⟨t, ht, rfl⟩ := ofV hx
            obtain ⟨x, ex, hpx⟩ := rl7.to ht
            have ha : a < (parts L n log j).length := by
              rw [List.length_map, rl7.1] at ha
              exact ha
            obtain ⟨o1, o2, o3⟩ := okp x (List.mem_of_getElem? ex)
            have fl := flat_len (f := longer L n) (c := 4) (xs := (parts L n log j).take a) fun y _ => longer_len n4
            rw [List.length_take] at fl
            have ll := longer_len (L := L) (x := x) n4
            obtain ⟨ac8, e8, _⟩ := id l8
            refine ⟨rfl, _, rfl, _, rfl, _, rfl, L, n, t, x, rfl, hpx.ls (LS.of s8), L1, by omega, n1, n4, ⟨o2, by omega, o3⟩, fun H9 r s9 hr ⟨tr, er, rr⟩ => ?_⟩
            have nr : r ≠ D2 := fun z => by
              rw [z, e8] at hr
              cases hr
            refine ⟨r, rfl, ⟨_, SqL.of er⟩, ?_⟩
            refine it_any walk_list (fun b H' => Same H7 H' ∧ PartsAt P w H' D2 (((parts L n log j).take a).flatMap (longer L n) ++ (longer L n x).take b) ∧ H' r = some (.lst (tr.map V.ref)) ∧ Rel (PartAt P w) H' tr (longer L n x)) ⟨s8.trans s9, by rw [List.take_zero, List.append_nil]; exact l8.same s9, er, rr⟩ (fun b H' _ z => SqL.of z.2.2.1) ?_ ?_
            · rintro b y H10x H10 hb ⟨s10, l10, er10, rr10⟩ ⟨rfl, hy⟩
              obtain ⟨v, hv, rfl⟩ := ofV hy
              obtain ⟨z, ez, hz⟩ := rr10.to hv
              have hb : b < (longer L n x).length := by
                rw [List.length_map, rr10.1] at hb
                exact hb
              obtain ⟨acc, ea, la, l11⟩ := l10.push hz
              refine ⟨rfl, _, rfl, acc, ea, ?_, same_set s10 hD2, ?_, (upd_ne nr).trans er10, Rel.imp rr10 fun _ _ => PartAt.ls (LS.lst ea)⟩
              · rw [la, List.length_append, List.length_take]
                exact Nat.lt_of_le_of_lt (by omega : _ ≤ 4 ^ 7 * 4 + 4) (by decide)
              · rw [take_more ez, ← List.append_assoc]
                exact l11
            · rintro H10 ⟨s10, l10, er10, rr10⟩
              rw [List.length_map, rr.1, List.take_length] at l10
              refine ⟨s10, ?_⟩
              rw [take_more ex, List.flatMap_append, List.flatMap_cons, List.flatMap_nil, List.append_nil]
              exact l10
          · rintro H8 ⟨s8, l8⟩
            rw [List.length_map, rl7.1, List.take_length] at l8
            exact ⟨D2, _, rfl, s7.trans s8, l8⟩
        · rintro σ H7 ⟨q, v5, rfl, s7, ts7, eq7, rl7⟩
          refine ⟨_, rfl, _, .inl ⟨_, SqL.of eq7, rfl⟩, ?_⟩
          cases ep : parts L n log k with
          | nil =>
            have e0 : ts7 = [] := List.length_eq_zero_iff.1 (by rw [rl7.1, ep]; rfl)
            subst e0
            rw [ep] at e4
            exact ⟨_, _, _, rfl, s3.trans s7, n3.same s7, le.trans e4⟩
          | cons p ps =>
            have p7 : PartsAt P w H7 q (p :: ps) := by
              rw [← ep]
              exact ⟨ts7, eq7, rl7⟩
            rw [ep] at e4
            cases ts7 with
            | nil =>
              have := rl7.1
              rw [ep] at this
              cases this
            | cons t7 ts7 => exact ⟨_, rfl, f _ (le.trans e4) _ _ (s3.trans s7) p7⟩
      · rintro σ H3 ⟨v3, v4, v5, rfl, s3, n3, le⟩
        exact js_3 (fun q => q) (by decide) (by decide) (by decide) fun out => ⟨by show 1 ≤ sizeLine; decide, g le _ s3⟩
end
end K42

set_option Elab.async false
set_option linter.all false
set_option maxRecDepth 100000
set_option maxHeartbeats 4000000
namespace K42
open PySem PySem.Spec PyProof.Rows L2 L2H Mz
def rowOf (L : Int) (x : Part) (s : Nat) : List Int := (findK x.2 ((s : Int), [])).getD 0 :: (x.1.drop (s * L.toNat)).take L.toNat
/-- for each state its output and its next states -/
def rowsOf (L : Int) (x : Part) : List (List Int) := (List.range (x.1.length / L.toNat)).map (rowOf L x)
abbrev RowsAt := LstOf IT
theorem keptIT : Kept IT := fun _ _ _ _ s h => s _ _ h
def spRows (P : Program) (w : World) : Sp := fun vs H Q _ => ∃ (L : Int) (p : Addr) (x : Part), vs = [.int L, .ref p] ∧ PartAt P w H p x ∧ 1 ≤ L ∧ L ≤ 2 ∧ OkP L x ∧
  ∀ (H' : Hp) (q : Addr), Same H H' → H q = none → RowsAt H' q (rowsOf L x) → Q (.ref q) H'
section
variable {P : Program} {w : World} {K : PySem.W.Frag} {mg : Str → Option Value} {base : Heap} {A : Ads}
theorem ok_rows (T : Txt K mg A) : FnOk P w K mg base CX0 1 A.a_state_rows A.d_state_rows ["letters", "part"] (spRows P w) := by
  refine T.F_state_rows.ok sc_state_rows (fun vs H Q E h => ?_) (fun cdv Ar outer s H vs Q E hr h => ?_)
  · obtain ⟨_, _, _, rfl, _⟩ := h
    rfl
  · refine ⟨_, (pss_cons (ps_asg (pv 1) (pg_tup rfl (pgs_cons (pg_name (i := 2) sc_state_rows.nd rfl (Or.inl rfl)) (pgs_cons (pg_name (i := 3) sc_state_rows.nd rfl (Or.inl rfl)) pgs_nil))))
      (pss_cons (ps_set (i := 4) sc_state_rows.nd rfl (Or.inl rfl) (pe_lst pa_nil))
      (pss_cons (ps_for PassesOwn.never rfl (pi_range1 (by rfl) T.n_range (pa_cons (pe_op op_fdiv (pe_callB call_len_seq (by rfl) T.n_len PySem.boot_len (pa_cons (pv 2) pa_nil)) (pv 0)) pa_nil)) (pg_name (i := 5) sc_state_rows.nd rfl (Or.inl rfl))
        (pss_one (ps_expr (pe_bm PySem.F.plainAttrs_list PySem.F.slot_list_append PySem.F.type_list_append mt_append (pv 4) (pa_cons (pe_op (r := rCatA K) op_catA (pe_tup (pa_cons (pe_getN2 (P := P) (w := w) rfl rfl (hu10 hr) (pv 3) (pe_tup (pa_cons (pv 5) (pa_cons (pe_tup pa_nil) pa_nil))) pe_int ⟨rfl, rfl, rfl, rfl⟩) pa_nil)) (pe_slice sl_tupA (pv 2) (po_some (pe_op op_mul (pv 5) (pv 0))) (po_some (pe_op op_mul (pe_op op_add (pv 5) pe_int) (pv 0))))) pa_nil)))))
      (pss_one (ps_ret (pv 4)))))), ?_⟩
    obtain ⟨L, p, ⟨mv, cl⟩, rfl, ⟨m, d, ep, hm, hd⟩, L1, L2, ⟨okM, l20, okC⟩, f⟩ := h
    have hm : IT H m mv := hm
    have hd : NestD P w H d cl := hd
    have okM : OkM mv := okM
    have okC : OkC L cl := okC
    have l20 : mv.length ≤ 20 := l20
    refine ⟨_, rfl, p, _, rfl, SqT.of ep, rfl, _, _, rfl, _, _, rfl, rfl, Nat.zero_le _, fun D hD => ?_⟩
    have sD := same_upd (o := .lst []) (Same.refl H) hD
    obtain ⟨c, rfl⟩ : ∃ c : Nat, L = (c : Int) := ⟨L.toNat, by omega⟩
    have c1 : 1 ≤ c := by omega
    have c2 : c ≤ 2 := by omega
    have lm : (mv.map V.int).length = mv.length := List.length_map ..
    obtain ⟨n, en⟩ : ∃ n, n = mv.length / c := ⟨_, rfl⟩
    have er0 : rowsOf (c : Int) (mv, cl) = (List.range n).map (rowOf (c : Int) (mv, cl)) := by rw [en]; rfl
    have dv : ((mv.map V.int).length : Int) / (c : Int) = (n : Int) := by rw [lm, en]; exact (Int.natCast_ediv ..).symm
    have dl : n ≤ mv.length := by rw [en]; exact Nat.div_le_self ..
    have dm : n * c ≤ mv.length := by rw [en]; exact Nat.div_mul_le_self ..
    clear en
    refine ⟨_, rfl, m, _, rfl, .inr (SqT.of (sD _ _ hm)), _, rfl, _, _, rfl, rfl, ⟨by omega, by omega⟩, (n : Int), congrArg (fun z => [V.int z]) dv, by omega, by omega, ?_⟩
    refine for_range (n := n) (fun k σ H' => ∃ (v5 : Option V), σ = [some (.int (c : Int)), some (.ref p), some (.ref m), some (.ref d), some (.ref D), v5] ∧ Same H H' ∧ RowsAt H' D ((List.range k).map (rowOf (c : Int) (mv, cl)))) ⟨_, rfl, sD, LstOf.nil upd_same⟩ ?_ ?_
    · rintro k σ H1 hk ⟨v5, rfl, s1, l1⟩
      have ek : (0 : Int) + (k : Int) = (k : Int) := by omega
      dsimp only [List.set]
      rw [ek]
      have b1 : (k + 1) * c ≤ mv.length := Nat.le_trans (Nat.mul_le_mul_right c (by omega : k + 1 ≤ n)) dm
      have b0 : k * c + c = (k + 1) * c := (Nat.succ_mul ..).symm
      have m0 : (k : Int) * (c : Int) = ((k * c : Nat) : Int) := (Int.natCast_mul ..).symm
      have m1 : ((k : Int) + 1) * (c : Int) = (((k + 1) * c : Nat) : Int) := (Int.natCast_mul ..).symm
      obtain ⟨ac1, e1, _⟩ := id l1
      refine ⟨_, rfl, .inl ⟨rfl, _, SqL.of e1⟩, ?_⟩
      refine ⟨_, rfl, d, cl, rfl, (hd.same s1).r, _, rfl, (by show 0 ≤ sizeLine; decide), fun u hu => ?_⟩
      have s2 := same_upd (o := .tup []) (Same.refl H1) hu
      have eu : (upd H1 u (.tup [])) u = some (.tup []) := upd_same
      generalize upd H1 u (.tup []) = H2 at *
      refine ⟨(by show 2 ≤ sizeLine; decide), fun kt hkt => ?_⟩
      have s3 := same_upd (o := .tup [.int (k : Int), .ref u]) (Same.refl H2) hkt
      have ekt : (upd H2 kt (.tup [.int (k : Int), .ref u])) kt = some (.tup [.int (k : Int), .ref u]) := upd_same
      generalize upd H2 kt (.tup [.int (k : Int), .ref u]) = H3 at *
      have s13 := s2.trans s3
      refine ⟨kt, ((k : Int), []), _, rfl, rfl, (hd.same (s1.trans s13)).r, ⟨u, ekt, s3 _ _ eu⟩, (by show 1 ≤ sizeLine; decide), fun v hv => ?_⟩
      have s4 := same_upd (o := .tup [.int ((findK cl ((k : Int), [])).getD 0)]) (Same.refl H3) hv
      have ev : (upd H3 v (.tup [.int ((findK cl ((k : Int), [])).getD 0)])) v = some (.tup [.int ((findK cl ((k : Int), [])).getD 0)]) := upd_same
      generalize upd H3 v (.tup [.int ((findK cl ((k : Int), [])).getD 0)]) = H4 at *
      have s14 := s13.trans s4
      have s04 := s1.trans s14
      have kb : k ≤ 20 := by omega
      refine ⟨_, rfl, _, rfl, _, rfl, _, _, rfl, rfl, .inl ⟨by omega, by omega⟩, _, rfl, _, rfl, _, _, rfl, rfl, _, rfl, _, _, rfl, rfl, .inl ⟨by omega, by omega⟩, _, rfl, ?_⟩
      refine slA_any (s04 _ _ hm) fun H5 r s5 er => ?_
      rw [m0, m1, cut_mid (by omega) (by omega) (by rw [lm]; omega), Int.toNat_natCast, Int.toNat_natCast, show (k + 1) * c - k * c = c by omega, ← List.map_drop, ← List.map_take] at er
      refine catA_any (s5 _ _ ev) er (Nat.le_trans (by simp; omega : _ ≤ 1000) (by decide)) fun H6 r6 s6 er6 => ?_
      have i6 : IT H6 r6 (rowOf (c : Int) (mv, cl) k) := er6
      have s16 := s14.trans (s5.trans s6)
      obtain ⟨acc, ea, la, l7⟩ := (l1.same keptIT s16).push keptIT i6
      refine ⟨D, acc, _, rfl, rfl, ea, Nat.lt_of_le_of_lt (by rw [la, List.length_map, List.length_range]; omega : acc.length ≤ 1000) (by decide), _, rfl, same_set (s1.trans s16) hD, ?_⟩
      rw [List.range_succ, List.map_append]
      exact l7
    · rintro σ H1 ⟨v5, rfl, s1, l1⟩
      exact ⟨_, rfl, f _ _ s1 hD (by rw [er0]; exact l1)⟩
end
end K42

set_option Elab.async false
set_option linter.all false
set_option maxRecDepth 100000
set_option maxHeartbeats 4000000
/-! d.setdefault(key, x), the keys tuples -/
namespace Mz
open PySem PySem.Spec PyProof.Rows L2
def tSetdT (td ty tx : TE) : TE := fun σ H Q => td σ H fun x H1 => ∃ a kvs0, x = .ref a ∧ H1 a = some (.dT kvs0) ∧ ty σ H1 fun y H2 => tx σ H2 fun z H3 => ∃ b kvs k, y = .ref b ∧ H3 a = some (.dT kvs) ∧ H3 b = some (.tup (k.map kV)) ∧ kvs.length < sizeLine ∧
  (∀ v, valV kvs k = some v → Q v H3) ∧ (valV kvs k = none → Q z (upd H3 a (.dT (putK kvs k z))))
theorem pe_dsetT {X : Cx} {o e f : Expr} {td ty tx : TE} {apos cpos : Pos} (hu : X.A.units + 1 < cLine) (ho : PE X o td) (he : PE X e ty) (hf : PE X f tx) (m : M2 X o "setdefault" apos e f cpos) : PE X (.Call (.Attribute o "setdefault" apos) [e, f] [] cpos) (tSetdT td ty tx) := by
  refine ⟨fun pins s σ H Q I h => ?_⟩
  refine wpAny_Call_method m.base m.few m.line PySem.F.plainAttrs_dict PySem.F.slot_dict_setdefault PySem.F.type_dict_setdefault (thn (ho.run pins s σ H _ I h) fun u s1 ⟨x, H1, I1, rx, a, kvs0, ex, ha0, q1⟩ => ?_)
  subst ex
  obtain rfl : u = Value.ref a := rx
  obtain ⟨_, _, ls0, _, dd0⟩ := dt_of I1.hok ha0
  refine ⟨dd0.typeIs, fun b q => ?_, ?_⟩
  · cases q
    obtain ⟨ob, _, _, k1, k2, _⟩ := dd0
    exact ⟨ob, k1, k2.2.1⟩
  rw [m.trees]
  refine Calls.callWith_builtin rfl (Calls.evalArgs_plain (Calls.spliced_cons (thn (he.run pins s1 σ H1 _ I1 q1) fun iv s2 ⟨y, H2, I2, ry, q2⟩ =>
    Calls.spliced_cons (thn (hf.run pins s2 σ H2 _ I2 q2) fun fv s3 ⟨z, H3, I3, rz, b, kvs, k, ey, ha, hb, hl, q3, q4⟩ => Calls.spliced_nil ?_))))
  subst ey
  obtain rfl : iv = Value.ref b := ry
  obtain ⟨_, nsys, ls, rel, dd⟩ := dt_of I3.hok ha
  have few : ls.length ≤ sizeLine := by
    have := Paired.length rel
    omega
  have few2 : (putK kvs k z).length ≤ sizeLine := by
    have := length_putK kvs k z
    omega
  have rv := rel.val k
  refine call_setdefault_heap (knd := tupleKind (mixKind X.prog X.w)) (hsz := few) (tupleKind_room_in1 hu) (key_of I3.hok hb) nsys dd (fun p hp => ?_) (fun hn h' dd' sb => ?_)
  · cases hv : valV kvs k with
    | none =>
      rw [hv, hp] at rv
      exact (show False from rv).elim
    | some v =>
      rw [hv, hp] at rv
      exact ⟨v, H3, I3.tok _, rv, q3 v hv⟩
  · cases hv : valV kvs k with
    | some v =>
      rw [hv, hn] at rv
      exact (show False from rv).elim
    | none =>
      obtain ⟨o, es, ep, ho, h2, h3, h4, _, h5⟩ := dd'
      refine ⟨z, _, d_write (ob := .dT (putK kvs k z)) (I3.tok _) (by rw [ha]; exact True.intro) sb ⟨o, ho⟩ ⟨few2, nsys, _, (rel.put k hb rz).keeps fun c ys ec => ?_, o, es, ep, ho, h2, h3, h4, h5⟩, rz, q4 hv⟩
      rw [upd_ne (ne_of ec ha (fun z => nomatch z))]
      exact ec
end Mz

set_option Elab.async false
set_option linter.all false
set_option maxRecDepth 100000
set_option maxHeartbeats 4000000
namespace K42
open PySem PySem.Spec PyProof.Rows L2 L2N Mz
/-- the numbers, the words and the outputs are in range -/
def InRange (L O : Int) (log : Log) : Prop := (1 ≤ L ∧ L ≤ 2) ∧ (1 ≤ O ∧ O ≤ 6) ∧ log.length ≤ 30 ∧ ∀ r ∈ log, (Lt L r.1 ∧ r.1.length ≤ 10) ∧ 0 ≤ r.2 ∧ r.2 < O
theorem Kp.set {Pt : Addr} {H H' : Hp} {p : Addr} {o : HO} (k : Kp Pt H H') (t : GxR.TabG H Pt) (hp : H p = none) : Kp Pt H (upd H' p o) := by
  have ne : Pt ≠ p := fun z => by
    obtain ⟨ps, q, r⟩ := t
    rw [z, hp] at q
    cases q
  refine ⟨?_, fun b u n e => ?_⟩
  · obtain ⟨ps, q, r⟩ := k.tab
    exact ⟨ps, (upd_ne ne).trans q, r⟩
  · rw [upd_ne fun z => by rw [z, hp] at e; cases e]
    exact k.keep b u n e
def kvsO (kn : Log) : List (List L2.Key × V) := kn.map fun x => (keyW x.1, V.int x.2)
def toldOf (kn : Log) (w : List Int) : Option Int := (kn.find? fun x => decide (x.1 = w)).map (·.2)
theorem valO {kn : List (List Int × Int)} {w : List Int} : valV (kvsO kn) (keyW w) = (toldOf kn w).map V.int := by
  induction kn with
  | nil => rfl
  | cons x kn ih =>
    unfold kvsO toldOf at *
    rw [List.map_cons, List.find?_cons]
    unfold valV at *
    rw [List.find?_cons]
    by_cases c : x.1 = w
    · rw [c]
      simp
    · have c2 : ¬ keyW x.1 = keyW w := fun z => c (keyW_inj z)
      rw [decide_eq_false c]
      simp only [decide_eq_false c2]
      exact ih
theorem told_some {kn : Log} {w : List Int} {o : Int} (h : toldOf kn w = some o) : (w, o) ∈ kn := by
  unfold toldOf at h
  obtain ⟨x, h1, rfl⟩ := Option.map_eq_some_iff.1 h
  have h2 := of_decide_eq_true (show decide (x.1 = w) = true from @List.find?_some _ (fun x : List Int × Int => decide (x.1 = w)) _ _ h1)
  rw [← h2]
  exact List.mem_of_find?_eq_some h1
theorem told_none {kn : Log} {w : List Int} (h : toldOf kn w = none) (o : Int) : (w, o) ∉ kn := by
  unfold toldOf at h
  have h1 := List.find?_eq_none.1 (Option.map_eq_none_iff.1 h)
  exact fun z => h1 _ z (decide_eq_true rfl)
theorem kvsO_put {kn : Log} {w : List Int} {o : Int} (h : toldOf kn w = none) : putK (kvsO kn) (keyW w) (.int o) = kvsO (kn ++ [(w, o)]) := by
  unfold putK
  rw [if_neg ?_]
  · unfold kvsO
    rw [List.map_append]
    rfl
  · intro z
    obtain ⟨x, hx, e⟩ := List.any_eq_true.1 z
    obtain ⟨y, hy, rfl⟩ := List.mem_map.1 hx
    have e1 := keyW_inj (of_decide_eq_true e)
    refine told_none h y.2 ?_
    rw [← e1]
    exact hy
theorem RowAt.kp {Pt : Addr} {H H' : Hp} {t : Addr} {x : List Int × Int} (hT : GxR.TabG H Pt) (k : Kp Pt H H') (h : RowAt H t x) : RowAt H' t x := let ⟨a, h1, h2⟩ := h; ⟨a, k.tup hT h1, k.lst hT h2⟩
theorem LogAt.kp {Pt : Addr} {H H' : Hp} {l : Addr} {log : Log} (hT : GxR.TabG H Pt) (k : Kp Pt H H') (h : LogAt H l log) : LogAt H' l log := let ⟨ts, h1, h2⟩ := h; ⟨ts, k.lst hT h1, Rel.imp h2 fun _ _ => RowAt.kp hT k⟩
theorem ifn {c : Bool} {A B : Prop} (h1 : c = false → A) (h2 : c = true → B) : if (!c) = true then A else B := by
  cases c with
  | false => exact h1 rfl
  | true => exact h2 rfl
theorem chain_t {g1 g2 : Int → Int → Bool} {ta tb tc : TE} {x y z : Int} {σ : L2.St} {H : Hp} {Q : Bool → Hp → Prop} (ha : ∀ {Q : VK}, Q (.int x) H → ta σ H Q) (hb : ∀ {Q : VK}, Q (.int y) H → tb σ H Q) (hc : ∀ {Q : VK}, Q (.int z) H → tc σ H Q) (h : Q (!(g1 x y && g2 y z)) H) :
    tNot (tTest (tChain (rI0 fun i j => .bl (g1 i j)) (rI0 fun i j => .bl (g2 i j)) ta tb tc)) σ H Q := by
  refine ha (hb ⟨x, y, rfl, rfl, _, rfl, ?_⟩)
  cases e : g1 x y with
  | false =>
    rw [e] at h
    exact ⟨_, rfl, h⟩
  | true =>
    rw [e] at h
    exact hc ⟨y, z, rfl, rfl, _, rfl, h⟩
theorem seq_if {t : TT} {a b u : TS} {D : Ends} {σ : L2.St} {H : Hp} (h : t σ H fun c H1 => if c = true then a { D with nx := u D } σ H1 else b { D with nx := u D } σ H1) : tSeq (tIfS t a b) u D σ H := h
def spCheckLog (A : Ads) (Pt : Addr) : Sp := fun vs H Q E => ∃ (L O : Int) (l : Addr) (log : Log), vs = [.int L, .int O, .ref l] ∧ LogAt H l log ∧ GxR.TabG H Pt ∧
  ∀ H', Kp Pt H H' → (¬ InRange L O log → E (.ref A.a_NotAllowed) none H') ∧ (InRange L O log → ¬ Clean log → E (.ref A.a_Broken) none H') ∧ (InRange L O log → Clean log → Q .non H')
section
variable {P : Program} {w : World} {K : PySem.W.Frag} {mg : Str → Option Value} {base : Heap} {A : Ads} {c Pt : Addr}
theorem ok_checklog (T : Txt K mg A) (TB : GxR.TabB base mg c Pt) (hc : A.d_are_below.code = .ref c) : FnOk P w K mg base (L2N.CX P w) 3 A.a_check_log A.d_check_log ["letters", "outs", "log"] (spCheckLog A Pt) := by
  have G_is_word : FnOk P w K mg base CX0 2 A.a_is_word A.d_is_word ["word", "letters", "longest"] (spIsWord K Pt) := ok_isword T TB hc
  refine okN T.F_check_log sc_check_log (fun vs H Q E h => ?_) (fun cdv Ar outer s H vs Q E hr h => ?_)
  · obtain ⟨_, _, _, _, rfl, _⟩ := h
    rfl
  · obtain ⟨L, O, l, log, rfl, hl, hT, fin⟩ := h
    have hr_is_word : Room 2 _ := hr
    refine ⟨_, (pss_cons (ps_if (pt_not (pt_chain op_le op_le pe_int (pv 0) (C8.pe_gc (v := .int 2) (by rfl) T.c_MAX_LOG_LETTERS))) (pss_one (L2N.ps_raise rfl (L2N.takes_of rfl rfl rfl rfl) (pmk_any PySem.F.excBase_ValueError T.x_NotAllowed T.g_NotAllowed T.k_NotAllowed (raises_own T.sb_NotAllowed T.ty_NotAllowed) (by rfl) (pa_cons (pe_joined (.cons pe_str (.cons (pe_fmt (C8.pe_gc (v := .int 2) (by rfl) T.c_MAX_LOG_LETTERS)) .nil))) pa_nil)))) pss_nil)
      (pss_cons (ps_if (pt_not (pt_chain op_le op_le pe_int (pv 1) (C8.pe_gc (v := .int 6) (by rfl) T.c_MAX_OUTS))) (pss_one (L2N.ps_raise rfl (L2N.takes_of rfl rfl rfl rfl) (pmk_any PySem.F.excBase_ValueError T.x_NotAllowed T.g_NotAllowed T.k_NotAllowed (raises_own T.sb_NotAllowed T.ty_NotAllowed) (by rfl) (pa_cons (pe_joined (.cons pe_str (.cons (pe_fmt (C8.pe_gc (v := .int 6) (by rfl) T.c_MAX_OUTS)) .nil))) pa_nil)))) pss_nil)
      (pss_cons (ps_if (pt_cmpR op_gt (pe_callB call_len_seq (by rfl) T.n_len PySem.boot_len (pa_cons (pv 2) pa_nil)) (C8.pe_gc (v := .int 30) (by rfl) T.c_MAX_LOG) (nomark _)) (pss_one (L2N.ps_raise rfl (L2N.takes_of rfl rfl rfl rfl) (pmk_any PySem.F.excBase_ValueError T.x_NotAllowed T.g_NotAllowed T.k_NotAllowed (raises_own T.sb_NotAllowed T.ty_NotAllowed) (by rfl) (pa_cons (pe_joined (.cons pe_str (.cons (pe_fmt (C8.pe_gc (v := .int 30) (by rfl) T.c_MAX_LOG)) (.cons pe_str .nil)))) pa_nil)))) pss_nil)
      (pss_cons (ps_for (passes_of rfl) rfl (pi_list (pv 2)) (pg_tup rfl (pgs_cons (pg_name (i := 3) sc_check_log.nd rfl (Or.inl rfl)) (pgs_cons (pg_name (i := 4) sc_check_log.nd rfl (Or.inl rfl)) pgs_nil)))
        (pss_one (ps_if (PW.pt (pw_or (pt_not (pt_val (pe_call G_is_word hr_is_word (by rfl) T.g_is_word T.F_is_word.kp T.b_is_word .nil pass0 (pa_cons (pv 3) (pa_cons (pv 0) (pa_cons (C8.pe_gc (v := .int 10) (by rfl) T.c_MAX_SEEN) pa_nil)))))) (pw_or1 (pt_not (pt_chain op_le op_lt pe_int (pv 4) (pv 1)))))) (pss_one (L2N.ps_raise rfl (L2N.takes_of rfl rfl rfl rfl) (L2N.pmk_own PySem.F.excBase_ValueError T.x_NotAllowed T.g_NotAllowed T.k_NotAllowed (raises_own T.sb_NotAllowed T.ty_NotAllowed) (by rfl)))) pss_nil)))
      (pss_cons (ps_set (i := 5) sc_check_log.nd rfl (Or.inl rfl) pe_dnewT)
      (pss_one (ps_for (passes_of rfl) rfl (pi_list (pv 2)) (pg_tup rfl (pgs_cons (pg_name (i := 3) sc_check_log.nd rfl (Or.inl rfl)) (pgs_cons (pg_name (i := 4) sc_check_log.nd rfl (Or.inl rfl)) pgs_nil)))
        (pss_one (ps_if (pt_cmpR op_ne (pe_dsetT (hu_of hr) (pv 5) (pe_callTy call_tuple_of (by rfl) T.n_tuple (by decide +kernel) (pa_cons (pv 3) pa_nil)) (pv 4) ⟨rfl, rfl, rfl, rfl⟩) (pv 4) (nomark _)) (pss_one (L2N.ps_raise rfl (L2N.takes_of rfl rfl rfl rfl) (L2N.pmk_own PySem.F.excBase_ValueError T.x_Broken T.g_Broken T.k_Broken (raises_own T.sb_Broken T.ty_Broken) (by rfl)))) pss_nil))))))))), ?_⟩
    obtain ⟨ts, el, rl⟩ := id hl
    have no : ∀ {H'}, Kp Pt H H' → ¬ InRange L O log → E (.ref A.a_NotAllowed) none H' := fun k => (fin _ k).1
    refine seq_if (chain_t (x := 1) (y := L) (z := 2) (fun q => q) (fun q => ⟨_, rfl, q⟩) (fun q => q) (ifn (fun c1 => ?_) (fun c1 => ?_)))
    · exact js_2 (fun q => q) (by decide) (by decide) fun out => ⟨by show 1 ≤ sizeLine; decide, no (.refl hT) fun z => by
        have := z.1
        simp at c1
        omega⟩
    dsimp only [tNext]
    refine seq_if (chain_t (x := 1) (y := O) (z := 6) (fun q => q) (fun q => ⟨_, rfl, q⟩) (fun q => q) (ifn (fun c2 => ?_) (fun c2 => ?_)))
    · exact js_2 (fun q => q) (by decide) (by decide) fun out => ⟨by show 1 ≤ sizeLine; decide, no (.refl hT) fun z => by
        have := z.2.1
        simp at c2
        omega⟩
    refine ⟨_, rfl, l, _, rfl, .inl (SqL.of el), _, _, rfl, rfl, _, rfl, ite2 (fun c3 => ?_) (fun c3 => ?_)⟩
    · exact js_3 (fun q => q) (by decide) (by decide) (by decide) fun out => ⟨by show 1 ≤ sizeLine; decide, no (.refl hT) fun z => by
        have := z.2.2.1
        rw [List.length_map, rl.1] at c3
        simp at c3
        omega⟩
    rw [List.length_map, rl.1] at c3
    refine ⟨_, rfl, l, rfl, ⟨_, SqL.of el⟩, ?_⟩
    refine for_it walk_list (fun i σ H' => ∃ (v3 v4 : Option V), σ = [some (.int L), some (.int O), some (.ref l), v3, v4, none] ∧ Kp Pt H H' ∧ ∀ r ∈ log.take i, (Lt L r.1 ∧ r.1.length ≤ 10) ∧ 0 ≤ r.2 ∧ r.2 < O) ⟨_, _, rfl, .refl hT, fun r hr => absurd hr (by simp)⟩ (fun i σ H' _ ⟨_, _, _, k, _⟩ => SqL.of (k.lst hT el)) ?_ ?_
    · rintro i x σ H1x H1 hi ⟨v3, v4, rfl, k1, ok⟩ ⟨rfl, hx⟩
      obtain ⟨t, ht, rfl⟩ := ofV hx
      obtain ⟨⟨wd, o⟩, er, a, et, ea⟩ := rl.to ht
      have et := k1.tup hT et
      have ea := k1.lst hT ea
      have mem := List.mem_of_getElem? er
      refine ⟨t, _, rfl, SqT.of et, rfl, _, _, rfl, _, _, rfl, rfl, ?_⟩
      refine ⟨_, rfl, _, rfl, a, wd, L, 10, rfl, SqL.of ea, k1.tab, fun H2 k2 => ⟨_, rfl, ifn (fun c4 => ?_) (fun c4 => ?_)⟩⟩
      · refine no (k1.trans k2) fun z => ?_
        have z1 := (z.2.2.2 _ mem).1
        rw [below_iff.2 z1.1, Bool.and_true] at c4
        have z2 : wd.length ≤ 10 := z1.2
        simp at c4
        omega
      · refine chain_t (x := 0) (y := o) (z := O) (fun q => q) (fun q => ⟨_, rfl, q⟩) (fun q => ⟨_, rfl, q⟩) (ifn (fun c5 => ?_) (fun c5 => ?_))
        · refine no (k1.trans k2) fun z => ?_
          have z1 := (z.2.2.2 _ mem).2
          have z2 : 0 ≤ o ∧ o < O := z1
          simp at c5
          omega
        · refine ⟨_, _, rfl, k1.trans k2, fun r hr => ?_⟩
          rw [take_more er] at hr
          rcases List.mem_append.1 hr with d | d
          · exact ok r d
          · rw [List.mem_singleton.1 d]
            rw [Bool.and_eq_true] at c4 c5
            exact ⟨⟨below_iff.1 c4.2, by have := of_decide_eq_true c4.1; show wd.length ≤ 10; omega⟩, of_decide_eq_true c5.1, of_decide_eq_true c5.2⟩
    · rintro σ H1 ⟨v3, v4, rfl, k1, ok⟩
      rw [List.length_map, rl.1, List.take_length] at ok
      have inR : InRange L O log := ⟨by simp at c1; exact c1, by simp at c2; exact c2, by simp at c3; omega, ok⟩
      refine fun D hD => ?_
      have hD0 : H D = none := k1.free hD
      have eD : (upd H1 D (.dT [])) D = some (.dT (kvsO [])) := upd_same
      have k2 := Kp.set (o := .dT []) k1 hT hD0
      generalize upd H1 D (.dT []) = H2 at *
      refine ⟨_, rfl, l, rfl, ⟨_, SqL.of (k2.lst hT el)⟩, ?_⟩
      refine for_it walk_list (fun i σ H' => ∃ (v3 v4 : Option V) (Tl : Log), σ = [some (.int L), some (.int O), some (.ref l), v3, v4, some (.ref D)] ∧ Kp Pt H H' ∧ H' D = some (.dT (kvsO Tl)) ∧ Tl.length ≤ i ∧ (∀ x, x ∈ Tl ↔ x ∈ log.take i) ∧ Clean Tl) ⟨_, _, [], rfl, k2, eD, Nat.le_refl _, fun x => by simp, fun r hr => absurd hr (by simp)⟩ (fun i σ H' _ ⟨_, _, _, _, k, _⟩ => SqL.of (k.lst hT el)) ?_ ?_
      · clear k1 k2 eD v3 v4
        rintro i x σ H3x H3 hi ⟨v3, v4, Tl, rfl, k3, e3, lT, mem, cl⟩ ⟨rfl, hx⟩
        obtain ⟨t, ht, rfl⟩ := ofV hx
        obtain ⟨⟨wd, o⟩, er, a, et, ea⟩ := rl.to ht
        have et := k3.tup hT et
        have ea := k3.lst hT ea
        have mr := List.mem_of_getElem? er
        have l30 : log.length ≤ 30 := inR.2.2.1
        have lr : i < log.length := by
          rw [List.length_map, rl.1] at hi
          exact hi
        refine ⟨t, _, rfl, SqT.of et, rfl, _, _, rfl, _, _, rfl, rfl, ?_⟩
        refine ⟨_, rfl, D, _, rfl, e3, _, rfl, a, _, rfl, .inl ⟨SqL.of ea, fun u hu => ?_⟩⟩
        have s4 := same_upd (o := .tup (wd.map V.int)) (Same.refl H3) hu
        have eu : (upd H3 u (.tup (wd.map V.int))) u = some (.tup (wd.map V.int)) := upd_same
        generalize upd H3 u (.tup (wd.map V.int)) = H4 at *
        have k4 := k3.andS s4
        refine ⟨_, rfl, u, kvsO Tl, keyW wd, rfl, s4 _ _ e3, by rw [keyW_V]; exact eu, Nat.lt_of_le_of_lt (by unfold kvsO; rw [List.length_map]; omega : (kvsO Tl).length ≤ 1000) (by decide), fun v hv => ?_, fun hn => ?_⟩
        · rw [valO] at hv
          obtain ⟨o', ho, rfl⟩ := Option.map_eq_some_iff.1 hv
          have m1 := told_some ho
          have m2 := List.mem_of_mem_take ((mem _).1 m1)
          refine ⟨_, rfl, rfl, _, rfl, iteN2 (fun c6 => ?_) (fun c6 => ?_)⟩
          · refine (fin H4 k4).2.1 inR fun z => ?_
            have : o' = o := z _ m2 _ mr rfl
            exact c6 (by rw [this])
          · have e6 : o' = o := by
              cases c6
              rfl
            rw [e6] at m1
            refine ⟨_, _, Tl, rfl, k4, s4 _ _ e3, by omega, fun x => ?_, cl⟩
            rw [take_more er]
            constructor
            · exact fun z => List.mem_append.2 (.inl ((mem x).1 z))
            · intro z
              rcases List.mem_append.1 z with z | z
              · exact (mem x).2 z
              · rw [List.mem_singleton.1 z]
                exact m1
        · rw [valO] at hn
          have hn := Option.map_eq_none_iff.1 hn
          rw [kvsO_put hn]
          refine ⟨_, rfl, rfl, _, rfl, iteN2 (fun c6 => absurd rfl c6) (fun _ => ?_)⟩
          refine ⟨_, _, Tl ++ [(wd, o)], rfl, Kp.set k4 hT hD0, upd_same, by rw [List.length_append, List.length_singleton]; omega, fun x => ?_, fun r hr q hq e => ?_⟩
          · rw [take_more er, List.mem_append, List.mem_append, mem x]
          · rcases List.mem_append.1 hr with y | y <;> rcases List.mem_append.1 hq with z | z
            · exact cl r y q z e
            · rw [List.mem_singleton.1 z] at e
              exact absurd y (by
                have := told_none hn r.2
                rw [← show r.1 = wd from e] at this
                exact this)
            · rw [List.mem_singleton.1 y] at e
              exact absurd z (by
                have := told_none hn q.2
                rw [show wd = q.1 from e] at this
                exact this)
            · rw [List.mem_singleton.1 y, List.mem_singleton.1 z]
      · rintro σ H3 ⟨v3, v4, Tl, rfl, k3, e3, lT, mem, cl⟩
        rw [List.length_map, rl.1, List.take_length] at mem
        exact (fin H3 k3).2.2 inR fun r hr q hq e => cl r ((mem r).2 hr) q ((mem q).2 hq) e
end
end K42

set_option Elab.async false
set_option linter.all false
set_option maxRecDepth 100000
set_option maxHeartbeats 4000000
namespace K42
open PySem PySem.Spec PyProof.Rows L2 L2N Mz
def rowD (r : List Int) : PyData := .tuple (r.map .int)
def rowsD (rs : List (List Int)) : PyData := .list (rs.map rowD)
theorem Rel.tail {α : Type} {R : Hp → Addr → α → Prop} {H : Hp} {t : Addr} {x : α} {ts : List Addr} {xs : List α} (h : Rel R H (t :: ts) (x :: xs)) : Rel R H ts xs := ⟨by have := h.1; simpa using this, fun i u y p q => h.2 (i + 1) u y p q⟩
theorem rel_dp {α : Type} {R : Hp → Addr → α → Prop} {K : PySem.W.Frag} {H : Hp} {f : α → PyData} (k : ∀ t x, R H t x → Dp K H (.ref t) (f x)) : ∀ {ts : List Addr} {xs : List α}, Rel R H ts xs → DpAll K H (ts.map V.ref) (xs.map f)
  | [], [], _ => .nil
  | [], _ :: _, h => by cases h.1
  | _ :: _, [], h => by cases h.1
  | t :: ts, x :: xs, h => .cons (k t x (h.2 0 t x rfl rfl)) (rel_dp k (Rel.tail h))
theorem rows_dp {K : PySem.W.Frag} {H : Hp} (t : Addr) (x : List (List Int)) (h : RowsAt H t x) : Dp K H (.ref t) (rowsD x) := by
  obtain ⟨us, e, r⟩ := h
  exact .lst (SqL.of e) (rel_dp (f := rowD) (fun t x (hx : IT H t x) => .tup (SqT.of hx) (dp_ints x)) r)
theorem alike_row (r s : List Int) : PySem.W.alike (rowD r) (rowD s) = true := by
  simp only [rowD, PySem.W.alike, alike_ints]
theorem alike_rows : ∀ rs ss : List (List Int), PySem.W.alikeAll (rs.map rowD) (ss.map rowD) = true
  | [], _ => by simp [PySem.W.alikeAll]
  | _ :: _, [] => by simp [PySem.W.alikeAll]
  | r :: rs, s :: ss => by
    simp only [List.map_cons, PySem.W.alikeAll, alike_row, Bool.true_and]
    exact alike_rows rs ss
theorem alike_all (xs : List (List (List Int))) : PySem.W.AlikeAll (xs.map rowsD) := by
  refine ⟨fun x hx y hy => ?_, fun x hx => ?_⟩
  · obtain ⟨a, _, rfl⟩ := List.mem_map.1 hx
    obtain ⟨b, _, rfl⟩ := List.mem_map.1 hy
    show PySem.W.alike (.list _) (.list _) = true
    simp only [PySem.W.alike]
    exact alike_rows a b
  · obtain ⟨a, _, rfl⟩ := List.mem_map.1 hx
    exact fun z => by cases z
theorem depth_rows : ∀ rs : List (List Int), PyData.depthAll (rs.map rowD) ≤ 2
  | [] => by simp [PyData.depthAll]
  | r :: rs => by
    have h1 := depth_rows rs
    have h2 := depth_ints r
    simp only [List.map_cons, PyData.depthAll]
    have e : PyData.depth (rowD r) ≤ PyData.depthAll (r.map PyData.int) + 1 := by
      unfold rowD
      simp only [PyData.depth]
      omega
    omega
theorem depth_all : ∀ xs : List (List (List Int)), PyData.depthAll (xs.map rowsD) ≤ 3
  | [] => by simp [PyData.depthAll]
  | x :: xs => by
    have h1 := depth_all xs
    have h2 := depth_rows x
    simp only [List.map_cons, PyData.depthAll]
    have e : PyData.depth (rowsD x) ≤ PyData.depthAll (x.map rowD) + 1 := by
      unfold rowsD
      simp only [PyData.depth]
      omega
    omega
theorem min_at {α : Type} {f : α → PyData} : ∀ (xs : List α) (d : PyData), PySem.W.minD d (xs.map f) = d ∨ ∃ x ∈ xs, PySem.W.minD d (xs.map f) = f x
  | [], d => .inl rfl
  | x :: xs, d => by
    have := min_at (f := f) xs (if PySem.W.dataLt (f x) d then f x else d)
    have e : PySem.W.minD d ((x :: xs).map f) = PySem.W.minD (if PySem.W.dataLt (f x) d then f x else d) (xs.map f) := rfl
    rw [e]
    rcases this with h | ⟨y, hy, h⟩
    · rw [h]
      split
      · exact .inr ⟨x, List.mem_cons_self, rfl⟩
      · exact .inl rfl
    · exact .inr ⟨y, List.mem_cons_of_mem _ hy, h⟩
theorem least_ok {L : Int} {log : Log} {ps : List Part} (L2 : L ≤ 2) (h : OkLog L log) : ∀ f n : Nat, n + f ≤ 5 → least L log f n = some ps → ps ≠ [] ∧ ps.length ≤ 4 ^ 8 ∧ ∀ x ∈ ps, OkP L x
  | 0, n, _, e => by cases e
  | f + 1, n, hn, e => by
    have k8 : n * L.toNat ≤ 8 := Nat.le_trans (Nat.mul_le_mul (show n ≤ 4 by omega) (show L.toNat ≤ 2 by omega)) (by decide)
    have ok := parts_ok (L := L) (n := n) (log := log) (by omega) h k8
    unfold least at e
    split at e
    · exact least_ok L2 h f (n + 1) (by omega) e
    · rename_i p qs ep
      cases e
      rw [ep] at ok
      refine ⟨(fun z => by cases z), Nat.le_trans ok.1 (Nat.pow_le_pow_right (by decide) k8), fun x hx => ?_⟩
      obtain ⟨o1, o2, o3⟩ := ok.2 x hx
      exact ⟨o2, by omega, o3⟩
theorem Rel.impM {α : Type} {R : Hp → Addr → α → Prop} {H H' : Hp} {ts : List Addr} {xs : List α} (h : Rel R H ts xs) (k : ∀ t ∈ ts, ∀ x, R H t x → R H' t x) : Rel R H' ts xs := ⟨h.1, fun i t x p q => k _ (List.mem_of_getElem? p) _ (h.2 i t x p q)⟩
theorem RowsAt.at {H : Hp} {D t : Addr} {o : HO} {vs : List V} {x : List (List Int)} (h : RowsAt H t x) (hD : H D = some (.lst vs)) (n : t ≠ D) : RowsAt (upd H D o) t x := let ⟨ts, e, r⟩ := h; ⟨ts, (upd_ne n).trans e, Rel.kept keptIT (TS.lst hD) r⟩
theorem rowOf_cons {L : Int} {x : Part} {row : List Int} (h : row ∈ rowsOf L x) : ∃ a b, row = a :: b := by
  obtain ⟨s, _, rfl⟩ := List.mem_map.1 h
  exact ⟨_, _, rfl⟩
/-- a machine from rows -/
def OutAt (H : Hp) (q : Addr) (L O : Int) (rs : List (List Int)) : Prop := ∃ a b, H q = some (.tup [.int L, .int O, .ref a, .ref b]) ∧ TupOf IT H a (rs.map List.tail) ∧ IT H b (rs.map fun r => r.headD 0)
def spSmallest (A : Ads) (Pt : Addr) : Sp := fun vs H Q E => ∃ (L O : Int) (l : Addr) (log : Log), vs = [.int L, .int O, .ref l] ∧ LogAt H l log ∧ GxR.TabG H Pt ∧
  ∀ H', Kp Pt H H' → (¬ InRange L O log → E (.ref A.a_NotAllowed) none H') ∧ (InRange L O log → ¬ Clean log → E (.ref A.a_Broken) none H') ∧ (InRange L O log → Clean log → least L log 4 1 = none → E (.ref A.a_Missing) none H') ∧
    ∀ p ps x q, InRange L O log → Clean log → least L log 4 1 = some (p :: ps) → x ∈ p :: ps → PySem.W.minD (rowsD (rowsOf L p)) (ps.map fun y => rowsD (rowsOf L y)) = rowsD (rowsOf L x) → OutAt H' q L O (rowsOf L x) → Q (.ref q) H'
section
variable {P : Program} {w : World} {K : PySem.W.Frag} {mg : Str → Option Value} {base : Heap} {A : Ads} {c Pt : Addr}
theorem ok_smallest (T : Txt K mg A) (TB : GxR.TabB base mg c Pt) (hc : A.d_are_below.code = .ref c) : FnOk P w K mg base (L2N.CX P w) 4 A.a_smallest A.d_smallest ["letters", "outs", "log"] (spSmallest A Pt) := by
  have G_move_on : FnOk P w K mg base CX0 1 A.a_move_on A.d_move_on ["letters", "moves", "claims"] (spMoveOn P w) := ok_moveon T
  have G_longer : FnOk P w K mg base CX0 2 A.a_longer_parts A.d_longer_parts ["letters", "states", "part"] (spLonger P w) := ok_longer T G_move_on
  have G_smallest_parts : FnOk P w K mg base (L2N.CX P w) 3 A.a_smallest_parts A.d_smallest_parts ["letters", "log"] (spParts P w A) := ok_parts T G_longer
  have G_state_rows : FnOk P w K mg base CX0 1 A.a_state_rows A.d_state_rows ["letters", "part"] (spRows P w) := ok_rows T
  have G_check_log : FnOk P w K mg base (L2N.CX P w) 3 A.a_check_log A.d_check_log ["letters", "outs", "log"] (spCheckLog A Pt) := ok_checklog T TB hc
  refine okN T.F_smallest sc_smallest (fun vs H Q E h => ?_) (fun cdv Ar outer s H vs Q E hr h => ?_)
  · obtain ⟨_, _, _, _, rfl, _⟩ := h
    rfl
  · obtain ⟨L, O, l, log, rfl, hl, hT, fin⟩ := h
    have hr_check_log : Room 3 _ := hr
    have hr_smallest_parts : Room 3 _ := hr
    have hr_state_rows : Room 1 _ := hr.mono (by decide)
    refine ⟨_, (pss_cons (ps_expr (pe_call G_check_log hr_check_log (by rfl) T.g_check_log T.F_check_log.kp T.b_check_log .nil (L2N.passes_call (L2N.takes_of rfl rfl rfl rfl) (fun _ _ _ _ h => h)) (pa_cons (pv 0) (pa_cons (pv 1) (pa_cons (pv 2) pa_nil)))))
      (pss_cons (ps_set (i := 3) sc_smallest.nd rfl (Or.inl rfl) (pe_callB (r := rMinL K) (call_minL rfl hr.units) (by rfl) T.n_min (by decide +kernel) (pa_cons (pe_lc (own := [("part", 4)]) (g := (gName 4)) (tt := tYes) rfl sc_smallest.nd (pi_list (pe_call G_smallest_parts hr_smallest_parts (by rfl) T.g_smallest_parts T.F_smallest_parts.kp T.b_smallest_parts .nil (L2N.passes_call (L2N.takes_of rfl rfl rfl rfl) (fun _ _ _ _ h => h)) (pa_cons (pv 0) (pa_cons (pv 2) pa_nil)))) (blkOk_by (N := ["letters", "outs", "log", "rows", "part", "row"]) (sc := defScope s_smallest) (by decide +kernel)) (fun _ _ _ _ _ => (pg_name (i := 4) sc_smallest.nd rfl (Or.inl rfl))) (fun _ _ _ _ _ => pts_nil) (fun _ _ _ _ _ => (pe_call G_state_rows hr_state_rows (by rfl) T.g_state_rows T.F_state_rows.kp T.b_state_rows .nil pass0 (pa_cons (pv 0) (pa_cons (pv 4) pa_nil))))) pa_nil)))
      (pss_one (ps_ret (pe_tup (pa_cons (pv 0) (pa_cons (pv 1) (pa_cons (pe_callTy call_tuple_of (by rfl) T.n_tuple (by decide +kernel) (pa_cons (pe_lc (own := [("row", 5)]) (g := (gName 5)) (tt := tYes) rfl sc_smallest.nd (pi_list (pv 3)) (blkOk_by (N := ["letters", "outs", "log", "rows", "part", "row"]) (sc := defScope s_smallest) (by decide +kernel)) (fun _ _ _ _ _ => (pg_name (i := 5) sc_smallest.nd rfl (Or.inl rfl))) (fun _ _ _ _ _ => pts_nil) (fun _ _ _ _ _ => (pe_slice (show SlR _ (rSlA K) from sl_tupA) (pv 5) (po_some pe_int) po_none))) pa_nil)) (pa_cons (pe_callTy call_tuple_of (by rfl) T.n_tuple (by decide +kernel) (pa_cons (pe_lc (own := [("row", 5)]) (g := (gName 5)) (tt := tYes) rfl sc_smallest.nd (pi_list (pv 3)) (blkOk_by (N := ["letters", "outs", "log", "rows", "part", "row"]) (sc := defScope s_smallest) (by decide +kernel)) (fun _ _ _ _ _ => (pg_name (i := 5) sc_smallest.nd rfl (Or.inl rfl))) (fun _ _ _ _ _ => pts_nil) (fun _ _ _ _ _ => (pe_ix (r := rIx K) ix_seq (pv 5) pe_int (fun _ _ => rfl)))) pa_nil)) pa_nil))))))))), ?_⟩
    refine ⟨_, rfl, _, rfl, _, rfl, L, O, l, log, rfl, hl, hT, fun H1 k1 => ⟨fun nr => (fin H1 k1).1 nr, fun inR nc => (fin H1 k1).2.1 inR nc, fun inR cl => ?_⟩⟩
    have hl1 := hl.kp hT k1
    have okL : OkLog L log := ⟨inR.2.2.1, cl, fun r hr => (inR.2.2.2 r hr).1⟩
    refine ⟨_, rfl, _, rfl, L, l, log, rfl, hl1, inR.1.1, inR.1.2, okL, fun ps eps H2 q s2 pq => ?_, fun en H2 s2 => (fin H2 (k1.andS s2)).2.2.1 inR cl en⟩
    obtain ⟨tq, eq2, rq⟩ := pq
    obtain ⟨pne, plen, pok⟩ := least_ok inR.1.2 okL 4 1 (by decide) eps
    refine ⟨q, rfl, ⟨_, SqL.of eq2⟩, fun D hD => ?_⟩
    refine it_any walk_list (fun i H' => Same H2 H' ∧ ∃ us : List Addr, H' D = some (.lst (us.map V.ref)) ∧ Rel RowsAt H' us ((ps.take i).map (rowsOf L)) ∧ ∀ u ∈ us, u ≠ D) ⟨same_upd (Same.refl _) hD, [], upd_same, Rel.nil, fun u hu => absurd hu (by simp)⟩ (fun i H' _ z => SqL.of (z.1 _ _ eq2)) ?_ ?_
    · rintro i x H3x H3 hi ⟨s3, us, eD, ru, nu⟩ ⟨rfl, hx⟩
      obtain ⟨t, ht, rfl⟩ := ofV hx
      obtain ⟨x, ex, hpx⟩ := rq.to ht
      have hpx := hpx.ls (LS.of s3)
      have li : i < ps.length := by
        rw [List.length_map, rq.1] at hi
        exact hi
      refine ⟨rfl, _, rfl, _, rfl, L, t, x, rfl, hpx, inR.1.1, inR.1.2, pok x (List.mem_of_getElem? ex), fun H4 r s4 hr rr => ?_⟩
      have nr : r ≠ D := fun z => by
        rw [z, eD] at hr
        cases hr
      have eD4 := s4 _ _ eD
      have lu : us.length ≤ 65536 := by
        rw [ru.1, List.length_map, List.length_take]
        have : (4 : Nat) ^ 8 = 65536 := by decide
        omega
      refine ⟨_, eD4, Nat.lt_of_le_of_lt (by rw [List.length_map]; exact lu) (by decide), same_set (s3.trans s4) hD, us ++ [r], by rw [upd_same, List.map_append]; rfl, ?_, fun u hu => ?_⟩
      · rw [take_more ex, List.map_append]
        have r1 : Rel RowsAt H4 (us ++ [r]) ((ps.take i).map (rowsOf L) ++ [rowsOf L x]) := (Rel.imp ru fun _ _ h => h.same keptIT s4).push rr
        refine Rel.impM r1 fun u hu y hy => RowsAt.at hy eD4 ?_
        rcases List.mem_append.1 hu with z | z
        · exact nu u z
        · rw [List.mem_singleton.1 z]
          exact nr
      · rcases List.mem_append.1 hu with z | z
        · exact nu u z
        · rw [List.mem_singleton.1 z]
          exact nr
    · rintro H3 ⟨s3, us, eD, ru, nu⟩
      rw [List.length_map, rq.1, List.take_length] at ru
      cases ps with
      | nil => exact absurd rfl pne
      | cons p ps =>
      have dp : DpAll K H3 (us.map V.ref) (((p :: ps).map (rowsOf L)).map rowsD) := rel_dp rows_dp ru
      have em : ((p :: ps).map (rowsOf L)).map rowsD = rowsD (rowsOf L p) :: ps.map fun y => rowsD (rowsOf L y) := by
        rw [List.map_map]
        rfl
      have al := alike_all ((p :: ps).map (rowsOf L))
      have de := depth_all ((p :: ps).map (rowsOf L))
      rw [em] at dp al de
      refine ⟨D, _, _, _, rfl, SqL.of eD, dp, al, Nat.le_trans de (by decide), fun i v hi hm => ?_⟩
      obtain ⟨r, hr, rfl⟩ := ofV hi
      rw [← em, List.map_map, List.getElem?_map] at hm
      obtain ⟨x, ex, hx⟩ := Option.map_eq_some_iff.1 hm
      have hx : rowsD (rowsOf L x) = PySem.W.minD (rowsD (rowsOf L p)) (ps.map fun y => rowsD (rowsOf L y)) := hx
      have rr : RowsAt H3 r (rowsOf L x) := ru.2 i r _ hr (by rw [List.getElem?_map, ex]; rfl)
      have mx := List.mem_of_getElem? ex
      have ox := pok x mx
      have k3 := k1.andS (s2.trans s3)
      clear dp al de eD ru nu
      obtain ⟨ws, er, rw0⟩ := rr
      have lrs : (rowsOf L x).length ≤ 20 := by
        unfold rowsOf
        rw [List.length_map, List.length_range]
        exact Nat.le_trans (Nat.div_le_self ..) ox.2.1
      have rc := @rowOf_cons L x
      have fq := fun (H' : Hp) (q : Addr) (k : Kp Pt H H') (oz : OutAt H' q L O (rowsOf L x)) => (fin H' k).2.2.2 p ps x q inR cl eps mx hx.symm oz
      generalize rowsOf L x = rs at *
      refine ⟨_, rfl, _, rfl, _, rfl, r, rfl, ⟨_, SqL.of er⟩, fun D2 hD2 => ?_⟩
      refine it_any walk_list (fun j H' => Same H3 H' ∧ LstOf IT H' D2 ((rs.take j).map List.tail)) ⟨same_upd (Same.refl _) hD2, LstOf.nil upd_same⟩ (fun j H' _ z => SqL.of (z.1 _ _ er)) ?_ ?_
      · rintro j y H4x H4 hj ⟨s4, l4⟩ ⟨rfl, hy⟩
        obtain ⟨t, ht, rfl⟩ := ofV hy
        obtain ⟨row, erow, hrow⟩ := rw0.to ht
        have hrow : H4 t = some (.tup (row.map V.int)) := s4 _ _ hrow
        obtain ⟨a, b, eab⟩ := rc (List.mem_of_getElem? erow)
        refine ⟨rfl, _, rfl, _, rfl, ?_⟩
        dsimp only [tNoPart]
        refine slA_any hrow fun H5 u s5 eu => ?_
        rw [cut_drop (by decide) (by rw [eab]; simp; omega), ← List.map_drop] at eu
        have iu : IT H5 u row.tail := by
          rw [← List.drop_one]
          exact eu
        obtain ⟨acc, ea, la, l6⟩ := (l4.same keptIT s5).push keptIT iu
        refine ⟨acc, ea, Nat.lt_of_le_of_lt (by rw [la, List.length_map, List.length_take]; omega : acc.length ≤ 1000) (by decide), same_set (s4.trans s5) hD2, ?_⟩
        rw [take_more erow, List.map_append]
        exact l6
      · rintro H4 ⟨s4, l4⟩
        rw [List.length_map, rw0.1, List.take_length] at l4
        obtain ⟨as, e4, r4⟩ := l4
        refine ⟨D2, _, rfl, .inl ⟨SqL.of e4, fun u hu => ?_⟩⟩
        have s5 := same_upd (o := .tup (as.map V.ref)) (Same.refl H4) hu
        have tu : TupOf IT (upd H4 u (.tup (as.map V.ref))) u (rs.map List.tail) := Rel.tuple keptIT r4 hu
        generalize upd H4 u (.tup (as.map V.ref)) = H5 at *
        have s35 := s4.trans s5
        refine ⟨_, rfl, r, rfl, ⟨_, SqL.of (s35 _ _ er)⟩, fun D3 hD3 => ?_⟩
        refine it_any walk_list (fun j H' => Same H5 H' ∧ H' D3 = some (.lst (((rs.take j).map fun r => r.headD 0).map V.int))) ⟨same_upd (Same.refl _) hD3, upd_same⟩ (fun j H' _ z => SqL.of (z.1 _ _ (s35 _ _ er))) ?_ ?_
        · rintro j y H6x H6 hj ⟨s6, e6⟩ ⟨rfl, hy⟩
          obtain ⟨t, ht, rfl⟩ := ofV hy
          obtain ⟨row, erow, hrow⟩ := rw0.to ht
          have hrow : H6 t = some (.tup (row.map V.int)) := s6 _ _ (s35 _ _ hrow)
          obtain ⟨a, b, eab⟩ := rc (List.mem_of_getElem? erow)
          refine ⟨rfl, _, rfl, .inr (.inl ⟨t, _, 0, .int (row.headD 0), rfl, rfl, SqT.of hrow, atI_get? (by decide) (by rw [eab]; rfl), ?_⟩)⟩
          refine ⟨_, e6, Nat.lt_of_le_of_lt (by rw [List.length_map, List.length_map, List.length_take]; omega : _ ≤ 1000) (by decide), same_set s6 hD3, ?_⟩
          rw [upd_same, take_more erow, List.map_append, List.map_append]
          rfl
        · rintro H6 ⟨s6, e6⟩
          rw [List.length_map, rw0.1, List.take_length] at e6
          refine ⟨D3, _, rfl, .inl ⟨SqL.of e6, fun v hv => ?_⟩⟩
          have s7 := same_upd (o := .tup ((rs.map fun r => r.headD 0).map V.int)) (Same.refl H6) hv
          have ev : (upd H6 v (.tup ((rs.map fun r => r.headD 0).map V.int))) v = some (.tup ((rs.map fun r => r.headD 0).map V.int)) := upd_same
          generalize upd H6 v (.tup ((rs.map fun r => r.headD 0).map V.int)) = H7 at *
          refine ⟨(by show 4 ≤ sizeLine; decide), fun z hz => ?_⟩
          have s8 := same_upd (o := .tup [.int L, .int O, .ref u, .ref v]) (Same.refl H7) hz
          refine fq _ z (k3.andS (s35.trans (s6.trans (s7.trans s8)))) ?_
          exact ⟨u, v, upd_same, tu.same keptIT (s6.trans (s7.trans s8)), s8 _ _ ev⟩
end
end K42

set_option Elab.async false
set_option linter.all false
set_option maxRecDepth 100000
set_option maxHeartbeats 4000000
namespace K42
open PySem PySem.Spec PyProof.Rows L2 Mz
theorem getI {ns : List Int} {j : Nat} (h : j < ns.length) : ∃ z, ns[j]? = some z ∧ z ∈ ns ∧ (ns.map V.int)[j]? = some (.int z) := by
  refine ⟨ns[j], List.getElem?_eq_getElem h, List.getElem_mem h, ?_⟩
  rw [List.getElem?_map, List.getElem?_eq_getElem h]
  rfl
theorem atI_int {ns : List Int} {i : Int} (h0 : 0 ≤ i) (h1 : i < ns.length) : ∃ z, z ∈ ns ∧ atI (ns.map V.int) i = some (.int z) := by
  obtain ⟨z, h2, h3, h4⟩ := getI (ns := ns) (j := i.toNat) (by omega)
  refine ⟨z, h3, ?_⟩
  have e : i = ((i.toNat : Nat) : Int) := by omega
  rw [e]
  exact atI_nat h4
def spCell (K : PySem.W.Frag) : Sp := fun vs H Q _ => ∃ (a : Addr) (ns : List Int) (k : Int), vs = [.ref a, .int k] ∧ SqL K H a (ns.map V.int) ∧ 0 ≤ k ∧ ∀ z, Q (.int z) H
def Nums (m : Nat) (ns : List Int) : Prop := ns.length = m ∧ ∀ z ∈ ns, 0 ≤ z ∧ z < 1000
def spNumbers : Sp := fun vs H Q _ => ∃ (c k : Int) (m : Nat), vs = [.int c, .int k, .int (m : Int)] ∧ 0 ≤ k ∧ k ≤ 40 ∧ 1 ≤ m ∧ m ≤ 30 ∧
  ∀ (ns : List Int) (H' : Hp) (p : Addr), Nums m ns → Same H H' → H p = none → H' p = some (.lst (ns.map V.int)) → Q (.ref p) H'
def spLMachine (K : PySem.W.Frag) : Sp := fun vs H Q _ => ∃ (p : Addr) (ns : List Int) (k o n : Int), vs = [.ref p, .int k, .int o, .int n] ∧ SqL K H p (ns.map V.int) ∧ Nums 30 ns ∧ 1 ≤ k ∧ k ≤ 3 ∧ 1 ≤ o ∧ o ≤ 6 ∧ 1 ≤ n ∧ n ≤ 5 ∧
  ∀ (M : Mach) (H' : Hp) (m : Addr), Good M → M.ls = k → M.os = o → (M.rows.length : Int) = n → Same H H' → MA H' m M → Q (.ref m) H'
/-- what a machine has behind a word -/
def ansM (M : Mach) (w : List Int) : Int := M.out (M.run 0 w)
def spState (K : PySem.W.Frag) : Sp := fun vs H Q _ => ∃ (m a : Addr) (M : Mach) (ns : List Int), vs = [.ref m, .ref a] ∧ MA H m M ∧ Good M ∧ SqL K H a (ns.map V.int) ∧ Lt M.ls ns ∧ Q (.int (M.run 0 ns)) H
def spOutput (K : PySem.W.Frag) : Sp := fun vs H Q _ => ∃ (m a : Addr) (M : Mach) (ns : List Int), vs = [.ref m, .ref a] ∧ MA H m M ∧ Good M ∧ SqL K H a (ns.map V.int) ∧ Lt M.ls ns ∧ Q (.int (ansM M ns)) H
section
variable {P : Program} {w : World} {K : PySem.W.Frag} {mg : Str → Option Value} {base : Heap} {A : Ads}
theorem ok_cell (T : Txt K mg A) : FnOk P w K mg base CX0 1 A.a_law_cell A.d_law_cell ["script", "k"] (spCell K) := by
  refine T.F_law_cell.ok sc_law_cell (fun vs H Q E h => ?_) (fun cdv Ar outer s H vs Q E hr h => ?_)
  · obtain ⟨_, _, _, rfl, _⟩ := h
    rfl
  · obtain ⟨a, ns, k, rfl, hS, h0, q⟩ := h
    refine ⟨_, (pss_cons (ps_if (pt_cmpR op_lt (pv 1) (pe_callB call_len_seq (by rfl) T.n_len PySem.boot_len (pa_cons (pv 0) pa_nil)) (nomark _)) (pss_one (ps_ret (pe_ix (r := rIx K) ix_seq (pv 0) (pv 1) (fun _ _ => rfl)))) pss_nil)
      (pss_one (ps_ret pe_int))), ?_⟩
    refine ⟨_, rfl, _, rfl, a, _, rfl, .inl hS, _, _, rfl, rfl, _, rfl, ?_⟩
    refine ite2 (fun c => ?_) (fun c => ?_)
    · have c' : k < ((ns.map V.int).length : Int) := by simpa using c
      rw [List.length_map] at c'
      obtain ⟨z, _, hz⟩ := atI_int h0 c'
      exact ⟨_, rfl, _, rfl, .inl ⟨a, _, k, _, rfl, rfl, hS, hz, q z⟩⟩
    · exact q 0
theorem ok_numbers (T : Txt K mg A) : FnOk P w K mg base CX0 1 A.a_law_numbers A.d_law_numbers ["cell", "k", "many"] spNumbers := by
  refine T.F_law_numbers.ok sc_law_numbers (fun vs H Q E h => ?_) (fun cdv Ar outer s H vs Q E hr h => ?_)
  · obtain ⟨_, _, _, rfl, _⟩ := h
    rfl
  · obtain ⟨c, k, m, rfl, h0, h9, m1, m30, q⟩ := h
    refine ⟨_, (pss_cons (ps_set (i := 3) sc_law_numbers.nd rfl (Or.inl rfl) (pe_lst pa_nil))
      (pss_cons (ps_if (pt_cmpR op_ge (pv 0) (pe_op op_pow pe_int pe_int) (nomark _)) (pss_cons (ps_set (i := 4) sc_law_numbers.nd rfl (Or.inl rfl) (pv 0))
          (pss_cons (ps_for PassesOwn.never rfl (pi_range1 (by rfl) T.n_range (pa_cons (pv 2) pa_nil)) (pg_name (i := 5) sc_law_numbers.nd rfl (Or.inl rfl))
            (pss_cons (ps_expr (pe_bm PySem.F.plainAttrs_list PySem.F.slot_list_append PySem.F.type_list_append mt_append (pv 3) (pa_cons (pe_op op_mod (pe_callTy call_int1 (by rfl) T.n_int (by decide +kernel) (pa_cons (pv 4) pa_nil)) pe_int) pa_nil)))
              (pss_one (ps_set (i := 4) sc_law_numbers.nd rfl (Or.inl rfl) (pe_op op_fdiv (pv 4) pe_int)))))
          (pss_one (ps_ret (pv 3))))) pss_nil)
      (pss_cons (ps_set (i := 6) sc_law_numbers.nd rfl (Or.inl rfl) (pe_op op_mod (pe_callTy call_int1 (by rfl) T.n_int (by decide +kernel) (pa_cons (pe_op op_add (pe_op op_add (pe_op op_mul (pv 0) pe_int) (pe_op op_mul (pv 1) pe_int)) pe_int) pa_nil)) pe_int))
      (pss_cons (ps_for PassesOwn.never rfl (pi_range1 (by rfl) T.n_range (pa_cons (pv 2) pa_nil)) (pg_name (i := 5) sc_law_numbers.nd rfl (Or.inl rfl))
        (pss_cons (ps_set (i := 6) sc_law_numbers.nd rfl (Or.inl rfl) (pe_op op_mod (pe_callTy call_int1 (by rfl) T.n_int (by decide +kernel) (pa_cons (pe_op op_add (pe_op op_add (pe_op op_mul (pv 6) pe_int) (pe_op op_mul (pv 5) pe_int)) pe_int) pa_nil)) pe_int))
          (pss_cons (ps_set (i := 7) sc_law_numbers.nd rfl (Or.inl rfl) (pe_op op_mod (pe_callTy call_int1 (by rfl) T.n_int (by decide +kernel) (pa_cons (pe_op op_add (pe_op op_add (pe_op op_mul (pv 6) (pv 6)) (pe_op op_mul (pv 1) pe_int)) (pv 5)) pa_nil)) pe_int))
          (pss_one (ps_expr (pe_bm PySem.F.plainAttrs_list PySem.F.slot_list_append PySem.F.type_list_append mt_append (pv 3) (pa_cons (pe_op op_mod (pe_callTy call_int1 (by rfl) T.n_int (by decide +kernel) (pa_cons (pe_op op_fdiv (pv 7) pe_int) pa_nil)) pe_int) pa_nil)))))))
      (pss_one (ps_ret (pv 3))))))), ?_⟩
    refine ⟨Nat.zero_le _, fun l hl => ?_⟩
    refine ⟨_, rfl, _, _, rfl, rfl, ⟨by decide, by decide, by decide⟩, _, _, rfl, rfl, _, rfl, ?_⟩
    refine ite2 (fun cc => ?_) (fun cc => ?_)
    · refine ⟨_, rfl, ?_⟩
      refine ⟨_, rfl, (m : Int), rfl, by omega, by omega, for_range (n := ((m : Int)).toNat) (fun i σ H' => ∃ (r : Int) (v : Option V) (ns : List Int), σ = [some (.int c), some (.int k), some (.int (m : Int)), some (.ref l), some (.int r), v, none, none] ∧ H' = upd H l (.lst (ns.map V.int)) ∧ ns.length = i ∧ ∀ z ∈ ns, 0 ≤ z ∧ z < 1000)
        ⟨c, none, [], rfl, rfl, rfl, fun z hz => absurd hz (by simp)⟩ ?_ ?_⟩
      · rintro i σ H' hi ⟨r, v, ns, rfl, rfl, hl1, hl2⟩
        refine ⟨_, rfl, .inl ⟨rfl, _, SqL.of upd_same⟩, _, rfl, .inl ⟨_, rfl, _, _, rfl, rfl, (by show (0 : Int) < 1000; decide), l, _, _, rfl, rfl, upd_same, ?_, ?_⟩⟩
        · rw [List.length_map]
          exact Nat.lt_of_le_of_lt (by omega : ns.length ≤ 30) (by decide)
        · refine ⟨_, rfl, _, _, rfl, rfl, ⟨by decide, by decide⟩, ?_⟩
          refine ⟨_, _, ns ++ [r % 1000], rfl, ?_, by rw [List.length_append, hl1]; rfl, ?_⟩
          · rw [upd_upd, List.map_append]
            rfl
          · intro z hz
            rcases List.mem_append.mp hz with e | e
            · exact hl2 z e
            · rw [List.mem_singleton.mp e]
              omega
      · rintro σ H' ⟨r, v, ns, rfl, rfl, hl1, hl2⟩
        refine ⟨_, rfl, q ns _ l ⟨by omega, hl2⟩ (fun b o e => ?_) hl upd_same⟩
        rw [upd_ne (ne_of_none e hl)]
        exact e
    · refine ⟨_, rfl, _, _, rfl, rfl, .inr ⟨by decide, by decide⟩, ?_⟩
      refine ⟨_, rfl, _, _, rfl, rfl, .inr ⟨by decide, by decide⟩, _, _, rfl, rfl, _, _, rfl, rfl, .inl ⟨_, rfl, _, _, rfl, rfl, (by show (0 : Int) < 2147483647; decide), ?_⟩⟩
      refine ⟨_, rfl, (m : Int), rfl, by omega, by omega, for_range (n := ((m : Int)).toNat) (fun i σ H' => ∃ (r : Int) (v v2 : Option V) (ns : List Int), σ = [some (.int c), some (.int k), some (.int (m : Int)), some (.ref l), none, v, some (.int r), v2] ∧ 0 ≤ r ∧ r < 2147483647 ∧ H' = upd H l (.lst (ns.map V.int)) ∧ ns.length = i ∧ ∀ z ∈ ns, 0 ≤ z ∧ z < 1000)
        ⟨_, none, none, [], rfl, by omega, by omega, rfl, rfl, fun z hz => absurd hz (by simp)⟩ ?_ ?_⟩
      · rintro i σ H' hi ⟨r, v, v2, ns, rfl, r0, r1, rfl, hl1, hl2⟩
        refine ⟨_, rfl, _, _, rfl, rfl, .inr ⟨by decide, by decide⟩, ?_⟩
        refine ⟨_, rfl, _, _, rfl, rfl, .inr ⟨by decide, by decide⟩, _, _, rfl, rfl, _, _, rfl, rfl, .inl ⟨_, rfl, _, _, rfl, rfl, (by show (0 : Int) < 2147483647; decide), ?_⟩⟩
        refine ⟨_, rfl, _, rfl, _, _, rfl, rfl, .inl ⟨by omega, by omega⟩, ?_⟩
        refine ⟨_, rfl, _, _, rfl, rfl, .inr ⟨by decide, by decide⟩, _, _, rfl, rfl, _, rfl, _, _, rfl, rfl, .inl ⟨_, rfl, _, _, rfl, rfl, (by show (0 : Int) < 1000000007; decide), ?_⟩⟩
        refine ⟨_, rfl, .inl ⟨rfl, _, SqL.of upd_same⟩, _, rfl, _, _, rfl, rfl, ⟨by decide, by decide⟩, .inl ⟨_, rfl, _, _, rfl, rfl, (by show (0 : Int) < 1000; decide), l, _, _, rfl, rfl, upd_same, ?_, ?_⟩⟩
        · rw [List.length_map]
          exact Nat.lt_of_le_of_lt (by omega : ns.length ≤ 30) (by decide)
        · refine ⟨_, _, _, ns ++ [_], rfl, by omega, by omega, (by rw [upd_upd, List.map_append]; rfl), by rw [List.length_append, hl1]; rfl, ?_⟩
          intro z hz
          rcases List.mem_append.mp hz with e | e
          · exact hl2 z e
          · rw [List.mem_singleton.mp e]
            omega
      · rintro σ H' ⟨r, v, v2, ns, rfl, r0, r1, rfl, hl1, hl2⟩
        refine ⟨_, rfl, q ns _ l ⟨by omega, hl2⟩ (fun b o e => ?_) hl upd_same⟩
        rw [upd_ne (ne_of_none e hl)]
        exact e
theorem ok_lmachine (T : Txt K mg A) : FnOk P w K mg base CX0 1 A.a_law_machine A.d_law_machine ["numbers", "letters", "outs", "states"] (spLMachine K) := by
  refine T.F_law_machine.ok sc_law_machine (fun vs H Q E h => ?_) (fun cdv Ar outer s H vs Q E hr h => ?_)
  · obtain ⟨_, _, _, _, _, rfl, _⟩ := h
    rfl
  · obtain ⟨p, ns, k, o, n, rfl, hS, hN, k1, k3, o2, o3, n1, n5, fin⟩ := h
    refine ⟨_, (pss_cons (ps_set (i := 4) sc_law_machine.nd rfl (Or.inl rfl) (pe_lst pa_nil))
      (pss_cons (ps_set (i := 5) sc_law_machine.nd rfl (Or.inl rfl) (pe_lst pa_nil))
      (pss_cons (ps_for PassesOwn.never rfl (pi_range1 (by rfl) T.n_range (pa_cons (pv 3) pa_nil)) (pg_name (i := 6) sc_law_machine.nd rfl (Or.inl rfl))
        (pss_cons (ps_set (i := 7) sc_law_machine.nd rfl (Or.inl rfl) (pe_lst pa_nil))
          (pss_cons (ps_for PassesOwn.never rfl (pi_range1 (by rfl) T.n_range (pa_cons (pv 1) pa_nil)) (pg_name (i := 8) sc_law_machine.nd rfl (Or.inl rfl))
            (pss_one (ps_expr (pe_bm PySem.F.plainAttrs_list PySem.F.slot_list_append PySem.F.type_list_append mt_append (pv 7) (pa_cons (pe_op op_mod (pe_callTy call_int1 (by rfl) T.n_int (by decide +kernel) (pa_cons (pe_ix (r := rIx K) ix_seq (pv 0) (pe_op op_add (pe_op op_add pe_int (pe_op op_mul pe_int (pv 6))) (pv 8)) (fun _ _ => rfl)) pa_nil)) (pv 3)) pa_nil)))))
          (pss_cons (ps_expr (pe_bm PySem.F.plainAttrs_list PySem.F.slot_list_append PySem.F.type_list_append mt_append (pv 4) (pa_cons (pe_callTy call_tuple_of (by rfl) T.n_tuple (by decide +kernel) (pa_cons (pv 7) pa_nil)) pa_nil)))
          (pss_one (ps_expr (pe_bm PySem.F.plainAttrs_list PySem.F.slot_list_append PySem.F.type_list_append mt_append (pv 5) (pa_cons (pe_op op_mod (pe_callTy call_int1 (by rfl) T.n_int (by decide +kernel) (pa_cons (pe_ix (r := rIx K) ix_seq (pv 0) (pe_op op_mul pe_int (pv 6)) (fun _ _ => rfl)) pa_nil)) (pv 2)) pa_nil))))))))
      (pss_one (ps_ret (pe_tup (pa_cons (pv 1) (pa_cons (pv 2) (pa_cons (pe_callTy call_tuple_of (by rfl) T.n_tuple (by decide +kernel) (pa_cons (pv 4) pa_nil)) (pa_cons (pe_callTy call_tuple_of (by rfl) T.n_tuple (by decide +kernel) (pa_cons (pv 5) pa_nil)) pa_nil)))))))))), ?_⟩
    refine ⟨Nat.zero_le _, fun l1 hl1 => ?_⟩
    refine ⟨Nat.zero_le _, fun l2 hl2 => ?_⟩
    have l21 : l2 ≠ l1 := fun z => by
      rw [z, upd_same] at hl2
      cases hl2
    have s1 : Same H (upd H l1 (.lst [])) := same_upd (Same.refl H) hl1
    have s2 : Same H (upd (upd H l1 (.lst [])) l2 (.lst [])) := same_upd s1 hl2
    have hl20 : H l2 = none := s1.free hl2
    refine ⟨_, rfl, n, rfl, by omega, by omega, for_range (n := (n).toNat) (fun j σ H' => ∃ (rs : List Addr) (rows : List (List Int)) (os : List Int) (v6 v7 v8 : Option V), σ = [some (.ref p), some (.int k), some (.int o), some (.int n), some (.ref l1), some (.ref l2), v6, v7, v8] ∧ Same H H' ∧ H' l1 = some (.lst (rs.map V.ref)) ∧ H' l2 = some (.lst (os.map V.int)) ∧
        TupL H' rs rows ∧ rows.length = j ∧ os.length = j ∧ (∀ w ∈ rows, (w.length : Int) = k) ∧ (∀ w ∈ rows, ∀ z ∈ w, 0 ≤ z ∧ z < n) ∧ (∀ z ∈ os, 0 ≤ z ∧ z < o))
      ⟨[], [], [], none, none, none, rfl, s2, (by rw [upd_ne l21.symm]; exact upd_same), upd_same, TupL.nil, rfl, rfl, (fun w hw => absurd hw (by simp)), (fun w hw => absurd hw (by simp)), fun z hz => absurd hz (by simp)⟩ ?_ ?_⟩
    · rintro j σ H' hj ⟨rs, rows, os, v6, v7, v8, rfl, s3, e1, e2, t3, c1, c2, c3, c4, c5⟩
      refine ⟨Nat.zero_le _, fun D hD => ?_⟩
      have Dl1 : D ≠ l1 := fun z => by
        rw [z, e1] at hD
        cases hD
      have Dl2 : D ≠ l2 := fun z => by
        rw [z, e2] at hD
        cases hD
      refine ⟨_, rfl, k, rfl, by omega, by omega, for_range (n := (k).toNat) (fun a σ H1 => ∃ (w : List Int) (v8 : Option V), σ = [some (.ref p), some (.int k), some (.int o), some (.int n), some (.ref l1), some (.ref l2), some (.int (0 + (j : Int))), some (.ref D), v8] ∧ Same H' H1 ∧ H1 D = some (.lst (w.map V.int)) ∧ w.length = a ∧ ∀ z ∈ w, 0 ≤ z ∧ z < n)
        ⟨[], _, rfl, same_upd (Same.refl _) hD, upd_same, rfl, fun z hz => absurd hz (by simp)⟩ ?_ ?_⟩
      · rintro a σ H1 ha ⟨w1, v8, rfl, s4, e4, d1, d2⟩
        have s34 := s3.trans s4
        obtain ⟨z, hz, az⟩ := atI_int (ns := ns) (i := 1 + 5 * (0 + (j : Int)) + (0 + (a : Int))) (by omega) (by rw [hN.1]; omega)
        refine ⟨_, rfl, .inl ⟨rfl, _, SqL.of e4⟩, ?_⟩
        refine ⟨_, rfl, _, rfl, _, _, rfl, rfl, .inl ⟨by decide, by decide⟩, _, _, rfl, rfl, _, rfl, _, _, rfl, rfl, .inl ⟨p, _, _, _, rfl, rfl, s34.seq hS, az, ?_⟩⟩
        refine .inl ⟨_, rfl, _, rfl, _, _, rfl, rfl, (by show 0 < n; omega), D, _, _, rfl, rfl, e4, ?_, ?_⟩
        · rw [List.length_map]
          exact Nat.lt_of_le_of_lt (by omega : w1.length ≤ 4) (by decide)
        refine ⟨w1 ++ [_], _, rfl, same_set s4 hD, (by rw [upd_same, List.map_append]; rfl), by rw [List.length_append, d1]; rfl, fun y hy => ?_⟩
        rcases List.mem_append.mp hy with e | e
        · exact d2 y e
        · rw [List.mem_singleton.mp e]
          exact ⟨Int.emod_nonneg _ (by omega), Int.emod_lt_of_pos _ (by omega)⟩
      · rintro σ H1 ⟨w1, v8, rfl, s4, e4, d1, d2⟩
        have s34 := s3.trans s4
        refine ⟨_, rfl, .inl ⟨rfl, _, SqL.of (s4 _ _ e1)⟩, ?_⟩
        refine ⟨_, rfl, D, _, rfl, .inl ⟨SqL.of e4, fun r hr' => ?_⟩⟩
        have s5 := same_upd (o := .tup (w1.map V.int)) (Same.refl H1) hr'
        have er : (upd H1 r (.tup (w1.map V.int))) r = some (.tup (w1.map V.int)) := upd_same
        generalize upd H1 r (.tup (w1.map V.int)) = H2 at *
        have s35 := s34.trans s5
        have e15 := s5 _ _ (s4 _ _ e1)
        have e25 := s5 _ _ (s4 _ _ e2)
        have t5 := (t3.same s4).same s5
        have lr := t5.1
        refine ⟨l1, _, _, rfl, rfl, e15, ?_, ?_⟩
        · rw [List.length_map]
          exact Nat.lt_of_le_of_lt (by omega : rs.length ≤ 30) (by decide)
        have t6 := t5.push (o := .lst (rs.map V.ref ++ [V.ref r])) e15 er
        have e16 : (upd H2 l1 (.lst (rs.map V.ref ++ [V.ref r]))) l1 = some (.lst ((rs ++ [r]).map V.ref)) := by rw [upd_same, List.map_append]; rfl
        have e26 : (upd H2 l1 (.lst (rs.map V.ref ++ [V.ref r]))) l2 = some (.lst (os.map V.int)) := by rw [upd_ne l21]; exact e25
        have s36 := same_set (o := .lst (rs.map V.ref ++ [V.ref r])) s35 hl1
        generalize upd H2 l1 (.lst (rs.map V.ref ++ [V.ref r])) = H3 at *
        obtain ⟨z, hz, az⟩ := atI_int (ns := ns) (i := 5 * (0 + (j : Int))) (by omega) (by rw [hN.1]; omega)
        refine ⟨_, rfl, .inl ⟨rfl, _, SqL.of e26⟩, ?_⟩
        refine ⟨_, rfl, _, rfl, _, _, rfl, rfl, .inl ⟨by decide, by decide⟩, .inl ⟨p, _, _, _, rfl, rfl, s36.seq hS, az, ?_⟩⟩
        refine .inl ⟨_, rfl, _, rfl, _, _, rfl, rfl, (by show 0 < o; omega), l2, _, _, rfl, rfl, e26, ?_, ?_⟩
        · rw [List.length_map]
          exact Nat.lt_of_le_of_lt (by omega : os.length ≤ 30) (by decide)
        refine ⟨rs ++ [r], rows ++ [w1], os ++ [z % o], _, _, _, rfl, same_set s36 hl20, (by rw [upd_ne l21.symm]; exact e16), by rw [upd_same, List.map_append]; rfl, ?_, by rw [List.length_append, c1]; rfl, by rw [List.length_append, c2]; rfl, fun y hy => ?_, fun y hy => ?_, fun y hy => ?_⟩
        · refine ⟨t6.1, fun i a u h1 h2 => ?_⟩
          have q := t6.2 i a u h1 h2
          exact (upd_ne fun y => by
            unfold IT at q
            rw [y, e26] at q
            cases q).trans q
        · rcases List.mem_append.mp hy with e | e
          · exact c3 y e
          · rw [List.mem_singleton.mp e, d1]
            omega
        · rcases List.mem_append.mp hy with e | e
          · exact c4 y e
          · rw [List.mem_singleton.mp e]
            exact d2
        · rcases List.mem_append.mp hy with e | e
          · exact c5 y e
          · rw [List.mem_singleton.mp e]
            exact ⟨Int.emod_nonneg _ (by omega), Int.emod_lt_of_pos _ (by omega)⟩
    · rintro σ H' ⟨rs, rows, os, v6, v7, v8, rfl, s3, e1, e2, t3, c1, c2, c3, c4, c5⟩
      refine ⟨_, rfl, _, rfl, _, rfl, l1, _, rfl, .inl ⟨SqL.of e1, fun mv hmv => ?_⟩⟩
      have s4 := same_upd (o := .tup (rs.map V.ref)) (Same.refl H') hmv
      have emv : (upd H' mv (.tup (rs.map V.ref))) mv = some (.tup (rs.map V.ref)) := upd_same
      generalize upd H' mv (.tup (rs.map V.ref)) = H1 at *
      refine ⟨_, rfl, l2, _, rfl, .inl ⟨SqL.of (s4 _ _ e2), fun ou hou => ?_⟩⟩
      have s5 := same_upd (o := .tup (os.map V.int)) (Same.refl H1) hou
      have eou : (upd H1 ou (.tup (os.map V.int))) ou = some (.tup (os.map V.int)) := upd_same
      generalize upd H1 ou (.tup (os.map V.int)) = H2 at *
      refine ⟨(by show 4 ≤ sizeLine; decide), fun m hm => ?_⟩
      have s6 := same_upd (o := .tup [.int k, .int o, .ref mv, .ref ou]) (Same.refl H2) hm
      have em : (upd H2 m (.tup [.int k, .int o, .ref mv, .ref ou])) m = some (.tup [.int k, .int o, .ref mv, .ref ou]) := upd_same
      have s46 := (s4.trans s5).trans s6
      refine fin ⟨k, o, rows, os⟩ _ m ⟨by show 1 ≤ k; omega, by show k ≤ 4; omega, by show 1 ≤ o; omega, by show o ≤ 6; omega, by show 1 ≤ rows.length; omega, by show rows.length ≤ 30; omega, by show os.length = rows.length; omega, c3, fun w hw z hz => ?_, c5⟩ rfl rfl (by show (rows.length : Int) = n; omega) (s3.trans s46) ⟨mv, ou, rs, em, (s5.trans s6) _ _ emv, s6 _ _ eou, t3.1, fun i r w h1 h2 => s46 _ _ (t3.2 i r w h1 h2)⟩
      have q := c4 w hw z hz
      have e : ((rows.length : Nat) : Int) = n := by omega
      exact ⟨q.1, by show z < ((rows.length : Nat) : Int); omega⟩
theorem ok_state (T : Txt K mg A) : FnOk P w K mg base CX0 1 A.a_law_state A.d_law_state ["machine", "word"] (spState K) := by
  refine T.F_law_state.ok sc_law_state (fun vs H Q E h => ?_) (fun cdv Ar outer s H vs Q E hr h => ?_)
  · obtain ⟨_, _, _, _, rfl, _⟩ := h
    rfl
  · obtain ⟨m, a, M, ns, rfl, ⟨mv, ou, rs, hM⟩, g, hS, hL, fin⟩ := h
    refine ⟨_, (pss_cons (ps_set (i := 2) sc_law_state.nd rfl (Or.inl rfl) pe_int)
      (pss_cons (ps_for PassesOwn.never rfl (pi_list (pv 1)) (pg_name (i := 3) sc_law_state.nd rfl (Or.inl rfl))
        (pss_one (ps_set (i := 2) sc_law_state.nd rfl (Or.inl rfl) (pe_ix (r := rIx K) ix_seq (pe_ix (r := rIx K) ix_seq (pe_ix (r := rIx K) ix_seq (pv 0) pe_int (fun _ _ => rfl)) (pv 2) (fun _ _ => rfl)) (pv 3) (fun _ _ => rfl)))))
      (pss_one (ps_ret (pv 2))))), ?_⟩
    refine ⟨_, rfl, a, rfl, ⟨_, hS⟩, for_list (K := K) (a := a) (xs := ns.map V.int) (fun i σ H' => ∃ v : Option V, σ = [some (.ref m), some (.ref a), some (.int (M.run 0 (ns.take i))), v] ∧ H' = H ∧ M.St (M.run 0 (ns.take i)))
      ⟨none, rfl, rfl, g.st0⟩ (fun i σ H' _ ⟨_, _, e, _⟩ => by rw [e]; exact hS) ?_ ?_⟩
    · rintro i y σ H' hi ⟨v, rfl, rfl, st⟩
      obtain ⟨z, hz, rfl⟩ := ofV hi
      have zl := hL z (List.mem_of_getElem? hz)
      obtain ⟨st2, w1, e1, e2⟩ := g.step st zl.1 zl.2
      obtain ⟨r, f1, f2⟩ := hM.rowAt st.1 e1
      refine ⟨_, rfl, .inr (.inl ⟨m, _, 2, .ref mv, rfl, rfl, SqT.of hM.top, rfl, ?_⟩)⟩
      refine ⟨_, rfl, .inr (.inl ⟨mv, _, _, _, rfl, rfl, SqT.of hM.mv, f1, ?_⟩)⟩
      refine ⟨_, rfl, .inr (.inl ⟨r, _, _, _, rfl, rfl, SqT.of f2, atI_get? zl.1 e2, ?_⟩)⟩
      rw [take_more hz, run_snoc]
      exact ⟨_, rfl, rfl, st2⟩
    · rintro σ H' ⟨v, rfl, rfl, st⟩
      rw [List.length_map, List.take_length]
      exact ⟨_, rfl, fin⟩
theorem ok_output (T : Txt K mg A) : FnOk P w K mg base CX0 2 A.a_law_output A.d_law_output ["machine", "word"] (spOutput K) := by
  have G_law_state : FnOk P w K mg base CX0 1 A.a_law_state A.d_law_state ["machine", "word"] (spState K) := ok_state T
  refine T.F_law_output.ok sc_law_output (fun vs H Q E h => ?_) (fun cdv Ar outer s H vs Q E hr h => ?_)
  · obtain ⟨_, _, _, _, rfl, _⟩ := h
    rfl
  · obtain ⟨m, a, M, ns, rfl, ⟨mv, ou, rs, hM⟩, g, hS, hL, fin⟩ := h
    have hr_law_state : Room 1 _ := hr
    refine ⟨_, (pss_one (ps_ret (pe_ix (r := rIx K) ix_seq (pe_ix (r := rIx K) ix_seq (pv 0) pe_int (fun _ _ => rfl)) (pe_call G_law_state hr_law_state (by rfl) T.g_law_state T.F_law_state.kp T.b_law_state .nil pass0 (pa_cons (pv 0) (pa_cons (pv 1) pa_nil))) (fun _ _ => rfl)))), ?_⟩
    have stU := g.runs g.st0 hL
    refine ⟨_, rfl, .inr (.inl ⟨m, _, 3, .ref ou, rfl, rfl, SqT.of hM.top, rfl, ?_⟩)⟩
    refine ⟨_, rfl, _, rfl, m, a, M, ns, rfl, ⟨mv, ou, rs, hM⟩, g, hS, hL, ?_⟩
    exact .inr (.inl ⟨ou, _, _, _, rfl, rfl, SqT.of hM.ou, atI_get? stU.1 (g.outp stU).1, fin⟩)
end
end K42

set_option Elab.async false
set_option linter.all false
set_option maxRecDepth 100000
set_option maxHeartbeats 4000000
namespace K42
open PySem PySem.Spec PyProof.Rows L2 Mz
/-! ### the words that may follow each beginning -/
abbrev Ent := List Int × Addr × Log
structure EndAt (H : Hp) (e : Addr) (W : List Ent) : Prop where
  top : H e = some (.dT (W.map fun x => (keyW x.1, V.ref x.2.1)))
  sub : ∀ x ∈ W, H x.2.1 = some (.dT (kvsO x.2.2))
  nd : (W.map fun x => x.2.1).Nodup
  ne : ∀ x ∈ W, x.2.1 ≠ e
structure EndOk (D : List Int → List Int → Int → Prop) (B : List Int → Prop) (W : List Ent) : Prop where
  keys : (W.map fun x => x.1).Nodup
  has : ∀ b, (∃ x ∈ W, x.1 = b) ↔ B b
  val : ∀ x ∈ W, ∀ t o, (t, o) ∈ x.2.2 ↔ D x.1 t o
theorem EndAt.same {H H' : Hp} {e : Addr} {W : List Ent} (h : EndAt H e W) (s : Same H H') : EndAt H' e W := ⟨s _ _ h.top, fun x hx => s _ _ (h.sub x hx), h.nd, h.ne⟩
def valE (W : List Ent) (b : List Int) : Option Ent := W.find? fun x => decide (x.1 = b)
theorem valE_eq (b : List Int) : ∀ W : List Ent, valV (W.map fun x => (keyW x.1, V.ref x.2.1)) (keyW b) = (valE W b).map fun x => V.ref x.2.1
  | [] => rfl
  | x :: W => by
    rw [List.map_cons]
    by_cases c : x.1 = b
    · rw [valV_pos (by rw [c])]
      unfold valE
      rw [List.find?_cons, decide_eq_true c]
      rfl
    · rw [valV_neg (fun z => c (keyW_inj z)), valE_eq b W]
      unfold valE
      rw [List.find?_cons, decide_eq_false c]
theorem valE_some {W : List Ent} {b : List Int} {x : Ent} (h : valE W b = some x) : x ∈ W ∧ x.1 = b := ⟨List.mem_of_find?_eq_some h, of_decide_eq_true (List.find?_some (p := fun x : Ent => decide (x.1 = b)) h)⟩
theorem valE_none {W : List Ent} {b : List Int} (h : valE W b = none) : ∀ x ∈ W, x.1 ≠ b := fun x hx e => by
  have := List.find?_eq_none.1 h x hx
  exact this (decide_eq_true e)
/-- one tail noted -/
def putT (T : Log) (t : List Int) (o : Int) : Log := if (t, o) ∈ T then T else T ++ [(t, o)]
theorem put_kvs {T : Log} {t : List Int} {o : Int} (u : ∀ o', (t, o') ∈ T → o' = o) : putK (kvsO T) (keyW t) (.int o) = kvsO (putT T t o) := by
  unfold putT
  cases e : toldOf T t with
  | none =>
    rw [if_neg (told_none e o), kvsO_put e]
  | some v =>
    have m := told_some e
    have := u v m
    subst this
    rw [if_pos m]
    unfold putK
    rw [valV_any, valO, e]
    refine (if_pos rfl).trans ?_
    unfold kvsO
    rw [List.map_map]
    refine List.map_congr_left fun r hr => ?_
    show (if keyW r.1 = keyW t then (keyW r.1, V.int v) else (keyW r.1, V.int r.2)) = (keyW r.1, V.int r.2)
    by_cases c : keyW r.1 = keyW t
    · have c2 := keyW_inj c
      rw [if_pos c, u r.2 (by rw [← c2]; exact hr)]
    · rw [if_neg c]
theorem putT_mem {T : Log} {t : List Int} {o : Int} {r : List Int × Int} : r ∈ putT T t o ↔ r ∈ T ∨ r = (t, o) := by
  unfold putT
  by_cases c : (t, o) ∈ T
  · rw [if_pos c]
    exact ⟨.inl, fun h => h.elim id fun z => by rw [z]; exact c⟩
  · rw [if_neg c, List.mem_append, List.mem_singleton]
theorem putT_len (T : Log) (t : List Int) (o : Int) : (putT T t o).length ≤ T.length + 1 := by
  unfold putT
  split
  · omega
  · rw [List.length_append]
    exact Nat.le_refl _
/-- an entry's tails changed -/
def setE (W : List Ent) (a : Addr) (T : Log) : List Ent := W.map fun x => if x.2.1 = a then (x.1, x.2.1, T) else x
theorem setE_keys (W : List Ent) (a : Addr) (T : Log) : (setE W a T).map (fun x => x.1) = W.map fun x => x.1 := by
  unfold setE
  rw [List.map_map]
  refine List.map_congr_left fun x _ => ?_
  show (if x.2.1 = a then (x.1, x.2.1, T) else x).1 = x.1
  split <;> rfl
theorem setE_ads (W : List Ent) (a : Addr) (T : Log) : (setE W a T).map (fun x => x.2.1) = W.map fun x => x.2.1 := by
  unfold setE
  rw [List.map_map]
  refine List.map_congr_left fun x _ => ?_
  show (if x.2.1 = a then (x.1, x.2.1, T) else x).2.1 = x.2.1
  split <;> rfl
theorem setE_mem {W : List Ent} {a : Addr} {T : Log} {y : Ent} (h : y ∈ setE W a T) : ∃ x ∈ W, y.1 = x.1 ∧ y.2.1 = x.2.1 ∧ (x.2.1 = a → y.2.2 = T) ∧ (x.2.1 ≠ a → y.2.2 = x.2.2) := by
  obtain ⟨x, hx, rfl⟩ := List.mem_map.1 h
  refine ⟨x, hx, ?_⟩
  by_cases c : x.2.1 = a
  · rw [if_pos c]
    exact ⟨rfl, rfl, fun _ => rfl, fun z => absurd c z⟩
  · rw [if_neg c]
    exact ⟨rfl, rfl, fun z => absurd z c, fun _ => rfl⟩
theorem setE_at {H : Hp} {e : Addr} {W : List Ent} (h : EndAt H e W) {x : Ent} (hx : x ∈ W) (T : Log) : EndAt (L2.upd H x.2.1 (.dT (kvsO T))) e (setE W x.2.1 T) := by
  refine ⟨?_, fun y hy => ?_, by rw [setE_ads]; exact h.nd, fun y hy => ?_⟩
  · rw [upd_ne (h.ne x hx).symm, h.top]
    unfold setE
    rw [List.map_map]
    refine congrArg (fun z => some (HO.dT z)) (List.map_congr_left fun y _ => ?_)
    show (keyW y.1, V.ref y.2.1) = (keyW (if y.2.1 = x.2.1 then (y.1, y.2.1, T) else y).1, V.ref (if y.2.1 = x.2.1 then (y.1, y.2.1, T) else y).2.1)
    split <;> rfl
  · obtain ⟨z, hz, e1, e2, e3, e4⟩ := setE_mem hy
    by_cases c : z.2.1 = x.2.1
    · rw [e2, c, upd_same, e3 c]
    · rw [e2, upd_ne c, e4 c, h.sub z hz]
  · obtain ⟨z, hz, _, e2, _⟩ := setE_mem hy
    rw [e2]
    exact h.ne z hz
theorem setE_ok {D D' : List Int → List Int → Int → Prop} {B B' : List Int → Prop} {W : List Ent} (h : EndOk D B W) {H : Hp} {e : Addr} (at' : EndAt H e W) {x : Ent} (hx : x ∈ W) {t : List Int} {o : Int} (hD : ∀ b u v, D' b u v ↔ D b u v ∨ (b = x.1 ∧ u = t ∧ v = o)) (hB : ∀ b, B' b ↔ B b ∨ b = x.1) : EndOk D' B' (setE W x.2.1 (putT x.2.2 t o)) := by
  have uniq : ∀ z ∈ W, z.2.1 = x.2.1 → z = x := fun z hz q => by
    obtain ⟨i, hi⟩ := List.mem_iff_getElem?.1 hz
    obtain ⟨j, hj⟩ := List.mem_iff_getElem?.1 hx
    have e1 : (W.map fun x => x.2.1)[i]? = some x.2.1 := by rw [List.getElem?_map, hi]; exact congrArg some q
    have e2 : (W.map fun x => x.2.1)[j]? = some x.2.1 := by rw [List.getElem?_map, hj]; rfl
    have ij := (List.getElem?_inj (List.getElem?_eq_some_iff.1 e1).1 at'.nd).1 (e1.trans e2.symm)
    rw [ij, hj] at hi
    exact (Option.some.inj hi).symm
  have uk : ∀ z ∈ W, z.1 = x.1 → z = x := fun z hz q => by
    obtain ⟨i, hi⟩ := List.mem_iff_getElem?.1 hz
    obtain ⟨j, hj⟩ := List.mem_iff_getElem?.1 hx
    have e1 : (W.map fun x => x.1)[i]? = some x.1 := by rw [List.getElem?_map, hi]; exact congrArg some q
    have e2 : (W.map fun x => x.1)[j]? = some x.1 := by rw [List.getElem?_map, hj]; rfl
    have ij := (List.getElem?_inj (List.getElem?_eq_some_iff.1 e1).1 h.keys).1 (e1.trans e2.symm)
    rw [ij, hj] at hi
    exact (Option.some.inj hi).symm
  refine ⟨by rw [setE_keys]; exact h.keys, fun b => ?_, fun y hy u v => ?_⟩
  · have k : (∃ y ∈ setE W x.2.1 (putT x.2.2 t o), y.1 = b) ↔ ∃ y ∈ W, y.1 = b := by
      have := setE_keys W x.2.1 (putT x.2.2 t o)
      have m1 : b ∈ (setE W x.2.1 (putT x.2.2 t o)).map (fun x => x.1) ↔ b ∈ W.map fun x => x.1 := by rw [this]
      rw [List.mem_map, List.mem_map] at m1
      exact m1
    rw [k, h.has, hB]
    exact ⟨.inl, fun z => z.elim id fun q => (h.has b).1 ⟨x, hx, q.symm⟩⟩
  · obtain ⟨z, hz, e1, e2, e3, e4⟩ := setE_mem hy
    by_cases c : z.2.1 = x.2.1
    · have zx := uniq z hz c
      subst zx
      rw [e3 rfl, putT_mem, e1, hD, h.val z hz]
      exact ⟨fun q => q.elim .inl fun q => .inr ⟨rfl, congrArg Prod.fst q, congrArg Prod.snd q⟩, fun q => q.elim .inl fun q => .inr (Prod.ext q.2.1 q.2.2)⟩
    · rw [e4 c, h.val z hz, e1, hD]
      refine ⟨.inl, fun q => q.elim id fun q => ?_⟩
      exact absurd (congrArg (fun w : Ent => w.2.1) (uk z hz q.1)) c
/-- a new entry -/
theorem newE_at {H : Hp} {e : Addr} {W : List Ent} (h : EndAt H e W) {b : List Int} {d : Addr} (hd : H d = some (.dT (kvsO []))) (hn : ∀ x ∈ W, x.2.1 ≠ d) (de : d ≠ e) : EndAt (L2.upd H e (.dT ((W.map fun x => (keyW x.1, V.ref x.2.1)) ++ [(keyW b, V.ref d)]))) e (W ++ [(b, d, [])]) := by
  refine ⟨by rw [upd_same, List.map_append]; rfl, fun y hy => ?_, ?_, fun y hy => ?_⟩
  · rcases List.mem_append.1 hy with q | q
    · rw [upd_ne (h.ne y q)]
      exact h.sub y q
    · rw [List.mem_singleton.1 q, upd_ne de]
      exact hd
  · rw [List.map_append, List.nodup_append]
    refine ⟨h.nd, List.pairwise_singleton .., fun a ha c hc q => ?_⟩
    obtain ⟨x, hx, ex⟩ := List.mem_map.1 ha
    have hc : c = d := List.mem_singleton.1 hc
    exact hn x hx (ex.trans (q.trans hc))
  · rcases List.mem_append.1 hy with q | q
    · exact h.ne y q
    · rw [List.mem_singleton.1 q]
      exact de
theorem newE_ok {D : List Int → List Int → Int → Prop} {B : List Int → Prop} {W : List Ent} (h : EndOk D B W) {b : List Int} {d : Addr} (n : ∀ x ∈ W, x.1 ≠ b) (nD : ∀ t o, ¬ D b t o) : EndOk D (fun c => B c ∨ c = b) (W ++ [(b, d, [])]) := by
  refine ⟨?_, fun c => ?_, fun x hx t o => ?_⟩
  · rw [List.map_append, List.nodup_append]
    refine ⟨h.keys, List.pairwise_singleton .., fun a ha c hc q => ?_⟩
    obtain ⟨x, hx, ex⟩ := List.mem_map.1 ha
    have hc : c = b := List.mem_singleton.1 hc
    exact n x hx (ex.trans (q.trans hc))
  · constructor
    · rintro ⟨x, hx, e⟩
      rcases List.mem_append.1 hx with q | q
      · exact .inl ((h.has c).1 ⟨x, q, e⟩)
      · rw [List.mem_singleton.1 q] at e
        exact .inr e.symm
    · rintro (q | q)
      · obtain ⟨x, hx, e⟩ := (h.has c).2 q
        exact ⟨x, List.mem_append_left _ hx, e⟩
      · exact ⟨_, List.mem_append_right _ List.mem_cons_self, q.symm⟩
  · rcases List.mem_append.1 hx with q | q
    · exact h.val x q t o
    · rw [List.mem_singleton.1 q]
      exact ⟨fun z => absurd z (by simp), fun z => absurd z (nD t o)⟩
theorem slA {K : PySem.W.Frag} {H : Hp} {a : Addr} {xs : List V} {lo hi : Option Int} {Q : VK} (h : H a = some (.tup xs)) (q : ∀ H' p, Same H H' → H' p = some (.tup (cutV xs lo hi)) → Q (.ref p) H') : rSlA K (.ref a) lo hi H Q := by
  refine ⟨a, _, rfl, SqT.of h, fun z => q H a (Same.refl _) ?_, fun _ p hp => q _ p (same_upd (Same.refl _) hp) upd_same⟩
  unfold cutV
  rw [z.1, z.2, List.drop_zero, Nat.sub_zero, List.take_length]
  exact h
/-- the words of the log, split -/
def DL (log : Log) (b t : List Int) (o : Int) : Prop := (b ++ t, o) ∈ log
def BL (log : Log) (b : List Int) : Prop := b = [] ∨ ∃ r ∈ log, b <+: r.1
theorem EndOk.iff {D D' : List Int → List Int → Int → Prop} {B B' : List Int → Prop} {W : List Ent} (h : EndOk D B W) (hD : ∀ b t o, D' b t o ↔ D b t o) (hB : ∀ b, B' b ↔ B b) : EndOk D' B' W := ⟨h.keys, fun b => (h.has b).trans (hB b).symm, fun x hx t o => (h.val x hx t o).trans (hD _ _ _).symm⟩
def DS (log : Log) (w : List Int) (o : Int) (j : Nat) (b t : List Int) (v : Int) : Prop := DL log b t v ∨ ∃ p, p < j ∧ b = w.take p ∧ t = w.drop p ∧ v = o
def BS (log : Log) (w : List Int) (j : Nat) (b : List Int) : Prop := BL log b ∨ ∃ p, p < j ∧ b = w.take p
theorem ds_all {log : Log} {w : List Int} {o : Int} {b t : List Int} {v : Int} : DL (log ++ [(w, o)]) b t v ↔ DS log w o (w.length + 1) b t v := by
  unfold DS DL
  rw [List.mem_append, List.mem_singleton]
  constructor
  · rintro (h | h)
    · exact .inl h
    · have e1 : b ++ t = w := congrArg Prod.fst h
      refine .inr ⟨b.length, by rw [← e1, List.length_append]; omega, by rw [← e1]; simp, by rw [← e1]; simp, congrArg Prod.snd h⟩
  · rintro (h | ⟨p, _, rfl, rfl, rfl⟩)
    · exact .inl h
    · exact .inr (by rw [List.take_append_drop])
theorem bs_all {log : Log} {w : List Int} {o : Int} {b : List Int} : BL (log ++ [(w, o)]) b ↔ BS log w (w.length + 1) b := by
  unfold BS BL
  constructor
  · rintro (h | ⟨r, hr, h⟩)
    · exact .inl (.inl h)
    · rcases List.mem_append.1 hr with q | q
      · exact .inl (.inr ⟨r, q, h⟩)
      · rw [List.mem_singleton.1 q] at h
        have h : b <+: w := h
        exact .inr ⟨b.length, by have := h.length_le; omega, (List.prefix_iff_eq_take.1 h)⟩
  · rintro ((h | ⟨r, hr, h⟩) | ⟨p, _, rfl⟩)
    · exact .inl h
    · exact .inr ⟨r, List.mem_append_left _ hr, h⟩
    · exact .inr ⟨(w, o), List.mem_append_right _ List.mem_cons_self, List.take_prefix _ _⟩
def rSd (a : Addr) (y z : V) (H : Hp) (Q : VK) : Prop := ∃ (b' : Addr) (kvs : List (List L2.Key × V)) (k : List L2.Key), y = .ref b' ∧ H a = some (.dT kvs) ∧ H b' = some (.tup (k.map kV)) ∧ kvs.length < sizeLine ∧ (∀ v, valV kvs k = some v → Q v H) ∧ (valV kvs k = none → Q z (upd H a (.dT (putK kvs k z))))
theorem tsetd {td ty tx : TE} {σ : L2.St} {H : Hp} {Q : VK} (h : td σ H fun x H1 => ∃ a kvs0, x = .ref a ∧ H1 a = some (.dT kvs0) ∧ ty σ H1 fun y H2 => tx σ H2 fun z H3 => rSd a y z H3 Q) : tSetdT td ty tx σ H Q := h
theorem setdE {H Hb : Hp} {e kb zd : Addr} {W : List Ent} {b : List Int} {D : List Int → List Int → Int → Prop} {B : List Int → Prop} {n m : Nat} {Q : VK} (at' : EndAt H e W) (ek : H kb = some (.tup (b.map V.int))) (hz : H zd = some (.dT (kvsO []))) (nz : ∀ x ∈ W, x.2.1 ≠ zd) (ze : zd ≠ e) (fr : ∀ x ∈ W, Hb x.2.1 = none) (fz : Hb zd = none) (ok : EndOk D B W) (hDB : ∀ t o, D b t o → B b) (lW : W.length ≤ n) (ln : n < 1000) (lT : ∀ x ∈ W, x.2.2.length ≤ m)
    (q : ∀ (G : Hp) (W2 : List Ent) (x : Ent), (∀ a o, a ≠ e → H a = some o → G a = some o) → x ∈ W2 → x.1 = b → EndAt G e W2 → EndOk D (fun c => B c ∨ c = b) W2 → (∀ y ∈ W2, Hb y.2.1 = none) → W2.length ≤ n + 1 → (∀ y ∈ W2, y.2.2.length ≤ m) → Q (.ref x.2.1) G) :
    rSd e (.ref kb) (.ref zd) H Q := by
  refine ⟨kb, _, keyW b, rfl, at'.top, by rw [keyW_V]; exact ek, Nat.lt_of_le_of_lt (by rw [List.length_map]; omega : _ ≤ 1000) (by decide), fun v hv => ?_, fun hv => ?_⟩
  · rw [valE_eq] at hv
    cases hx : valE W b with
    | none => rw [hx] at hv; cases hv
    | some x =>
      rw [hx] at hv
      cases hv
      obtain ⟨mx, e1⟩ := valE_some hx
      exact q H W x (fun _ _ _ h => h) mx e1 at' (ok.iff (fun _ _ _ => Iff.rfl) fun c => ⟨fun h => h.elim id fun z => (ok.has c).1 ⟨x, mx, e1.trans z.symm⟩, .inl⟩) fr (Nat.le_succ_of_le lW) lT
  · rw [putK_new _ hv]
    rw [valE_eq] at hv
    have hn : valE W b = none := by
      cases hx : valE W b with
      | none => rfl
      | some x => rw [hx] at hv; cases hv
    have no := valE_none hn
    refine q _ (W ++ [(b, zd, [])]) (b, zd, []) (fun a o ne h => (upd_ne ne).trans h) (List.mem_append_right _ List.mem_cons_self) rfl (newE_at at' hz nz ze) (newE_ok ok no fun t o z => ?_) (fun y hy => ?_) (by rw [List.length_append]; show W.length + 1 ≤ _; omega) (fun y hy => ?_)
    · obtain ⟨x, hx, e1⟩ := (ok.has b).2 (hDB t o z)
      exact no x hx e1
    · rcases List.mem_append.1 hy with q | q
      · exact fr y q
      · rw [List.mem_singleton.1 q]; exact fz
    · rcases List.mem_append.1 hy with q | q
      · exact lT y q
      · rw [List.mem_singleton.1 q]; exact Nat.zero_le _
theorem ds_bs {log : Log} {w : List Int} {o : Int} {j : Nat} {b t : List Int} {v : Int} (h : DS log w o j b t v) : BS log w j b := by
  rcases h with h | ⟨p, hp, e, _⟩
  · exact .inl (.inr ⟨_, h, List.prefix_append _ _⟩)
  · exact .inr ⟨p, hp, e⟩
def spEndings : Sp := fun vs H Q _ => ∃ (l : Addr) (log : Log), vs = [.ref l] ∧ LogAt H l log ∧ Clean log ∧ log.length ≤ 30 ∧ (∀ r ∈ log, r.1.length ≤ 10) ∧
  ∀ (H' : Hp) (e : Addr) (W : List Ent), Same H H' → H e = none → EndAt H' e W → (∀ x ∈ W, H x.2.1 = none) → EndOk (DL log) (BL log) W → W.length ≤ 331 → (∀ x ∈ W, x.2.2.length ≤ 330) → Q (.ref e) H'
section
variable {P : Program} {w : World} {K : PySem.W.Frag} {mg : Str → Option Value} {base : Heap} {A : Ads} {c1 c2 c3 P1 P2 P3 : Addr}
theorem ok_endings (T : Txt K mg A) : FnOk P w K mg base CX0 1 A.a_endings A.d_endings ["log"] spEndings := by
  refine T.F_endings.ok sc_endings (fun vs H Q E h => ?_) (fun cdv Ar outer s H vs Q E hr h => ?_)
  · obtain ⟨_, _, rfl, _⟩ := h
    rfl
  · refine ⟨_, (pss_cons (ps_set (i := 1) sc_endings.nd rfl (Or.inl rfl) (pe_disp1T (hu_of hr) (pe_tup pa_nil) pe_dnewT))
      (pss_cons (ps_for PassesOwn.never rfl (pi_list (pv 0)) (pg_tup rfl (pgs_cons (pg_name (i := 2) sc_endings.nd rfl (Or.inl rfl)) (pgs_cons (pg_name (i := 3) sc_endings.nd rfl (Or.inl rfl)) pgs_nil)))
        (pss_cons (ps_set (i := 4) sc_endings.nd rfl (Or.inl rfl) (pe_callTy call_tuple_of (by rfl) T.n_tuple (by decide +kernel) (pa_cons (pv 2) pa_nil)))
          (pss_one (ps_for PassesOwn.never rfl (pi_range1 (by rfl) T.n_range (pa_cons (pe_op op_add (pe_callB call_len_seq (by rfl) T.n_len PySem.boot_len (pa_cons (pv 4) pa_nil)) pe_int) pa_nil)) (pg_name (i := 5) sc_endings.nd rfl (Or.inl rfl))
            (pss_one (ps_asg (pv 3) (pg_sub (pe_dsetT (hu_of hr) (pv 1) (pe_slice sl_tupA (pv 4) po_none (po_some (pv 5))) pe_dnewT ⟨rfl, rfl, rfl, rfl⟩) (pe_slice sl_tupA (pv 4) (po_some (pv 5)) po_none) (set_dict (hu_of hr)))))))))
      (pss_one (ps_ret (pv 1))))), ?_⟩
    obtain ⟨l, log, rfl, hl, cl, l30, lw, fin⟩ := h
    obtain ⟨ts, el, rl⟩ := id hl
    intro e he
    have s1 := same_upd (o := .dT []) (Same.refl H) he
    have ee : (upd H e (.dT [])) e = some (.dT []) := upd_same
    generalize upd H e (.dT []) = H1 at *
    refine ⟨(by show 0 ≤ sizeLine; decide), fun q hq => ?_⟩
    have s2 := same_upd (o := .tup []) (Same.refl H1) hq
    have eq : (upd H1 q (.tup [])) q = some (.tup []) := upd_same
    generalize upd H1 q (.tup []) = H2 at *
    intro d hd
    have s3 := same_upd (o := .dT []) (Same.refl H2) hd
    have ed : (upd H2 d (.dT [])) d = some (.dT (kvsO [])) := upd_same
    have fd : H d = none := (s1.trans s2).free hd
    have de : d ≠ e := fun z => by
      rw [z, s2 _ _ ee] at hd
      cases hd
    generalize upd H2 d (.dT []) = H3 at *
    have s13 := s2.trans s3
    refine ⟨q, [], rfl, s3 _ _ eq, s13 _ _ ee, ?_⟩
    have sS : Same H (upd H3 e (.dT [([], .ref d)])) := same_set (s1.trans s13) he
    have at0 : EndAt (upd H3 e (.dT [([], .ref d)])) e [([], d, [])] := ⟨upd_same, fun x hx => by rw [List.mem_singleton.1 hx]; exact (upd_ne de).trans ed, by simp, fun x hx => by rw [List.mem_singleton.1 hx]; exact de⟩
    have ok0 : EndOk (DL []) (BL []) [([], d, [])] := ⟨by simp, fun b => ⟨fun ⟨x, hx, q⟩ => .inl (by rw [List.mem_singleton.1 hx] at q; exact q.symm), fun z => ⟨_, List.mem_cons_self, (z.elim Eq.symm fun ⟨r, hr, _⟩ => absurd hr (by simp))⟩⟩, fun x hx t o => by
      rw [List.mem_singleton.1 hx]
      exact ⟨fun z => absurd z (by simp), fun z => absurd z (by unfold DL; simp)⟩⟩
    generalize upd H3 e (.dT [([], .ref d)]) = H4 at *
    clear ed ee eq s13 s1 s2 s3 hd hq
    refine ⟨_, rfl, l, rfl, ⟨_, SqL.of (sS _ _ el)⟩, ?_⟩
    refine for_it walk_list (fun i σ H' => ∃ (v2 v3 v4 v5 : Option V) (W : List Ent), σ = [some (.ref l), some (.ref e), v2, v3, v4, v5] ∧ Same H H' ∧ EndAt H' e W ∧ (∀ x ∈ W, H x.2.1 = none) ∧ EndOk (DL (log.take i)) (BL (log.take i)) W ∧ W.length ≤ 1 + 11 * i ∧ ∀ x ∈ W, x.2.2.length ≤ 11 * i) ⟨_, _, _, _, _, rfl, sS, at0, fun x hx => by rw [List.mem_singleton.1 hx]; exact fd, ok0, Nat.le_refl _, fun x hx => by rw [List.mem_singleton.1 hx]; exact Nat.le_refl _⟩ (fun i σ H' _ ⟨_, _, _, _, _, _, s, _⟩ => SqL.of (s _ _ el)) ?_ ?_
    · rintro i x σ H5x H5 hi ⟨v2, v3, v4, v5, W, rfl, s5, at5, fr, ok5, lW, lT⟩ ⟨rfl, hx⟩
      obtain ⟨t1, ht1, rfl⟩ := ofV hx
      obtain ⟨⟨w1, o⟩, er, a, et, ea⟩ := rl.to ht1
      have hw1 := lw _ (List.mem_of_getElem? er)
      have hw1 : w1.length ≤ 10 := hw1
      have et := s5 _ _ et
      have ea := s5 _ _ ea
      have il : i < 30 := by
        have := (List.getElem?_eq_some_iff.1 er).1
        omega
      refine ⟨t1, _, rfl, SqT.of et, rfl, _, _, rfl, _, _, rfl, rfl, ?_⟩
      refine ⟨_, rfl, a, _, rfl, .inl ⟨SqL.of ea, fun wh hwh => ?_⟩⟩
      have s6 := same_upd (o := .tup (w1.map V.int)) (Same.refl H5) hwh
      have ew : (upd H5 wh (.tup (w1.map V.int))) wh = some (.tup (w1.map V.int)) := upd_same
      have at6 := at5.same s6
      generalize upd H5 wh (.tup (w1.map V.int)) = H6 at *
      refine ⟨_, rfl, wh, _, rfl, .inr (SqT.of ew), ?_⟩
      rw [List.length_map]
      refine ⟨_, _, rfl, rfl, (w1.length : Int) + 1, rfl, by omega, by omega, ?_⟩
      refine for_range (n := ((w1.length : Int) + 1).toNat) (fun j σ H' => ∃ (v5 : Option V) (W : List Ent), σ = [some (.ref l), some (.ref e), some (.ref a), some (.int o), some (.ref wh), v5] ∧ Same H H' ∧ H' wh = some (.tup (w1.map V.int)) ∧ EndAt H' e W ∧ (∀ x ∈ W, H x.2.1 = none) ∧ EndOk (DS (log.take i) w1 o j) (BS (log.take i) w1 j) W ∧ W.length ≤ 1 + 11 * i + j ∧ ∀ x ∈ W, x.2.2.length ≤ 11 * i + j) ⟨_, W, rfl, s5.trans s6, ew, at6, fr, ok5.iff (fun b t v => ⟨fun h => h.elim id fun ⟨p, hp, _⟩ => absurd hp (Nat.not_lt_zero _), .inl⟩) (fun b => ⟨fun h => h.elim id fun ⟨p, hp, _⟩ => absurd hp (Nat.not_lt_zero _), .inl⟩), lW, lT⟩ ?_ ?_
      · clear ok5 lW lT fr at6 at5 ew s6 W
        rintro j σ H7 hj ⟨v5', W, rfl, s7, ew, at7, fr, ok7, lW, lT⟩
        have hj : j ≤ w1.length := by omega
        have ln : (w1.map V.int).length = w1.length := List.length_map ..
        refine ⟨_, rfl, ?_⟩
        refine tsetd ?_
        refine ⟨_, rfl, e, _, rfl, at7.top, ?_⟩
        refine ⟨_, rfl, _, rfl, _, rfl, ?_⟩
        refine slA ew fun H8 kb s8 ekb => ?_
        rw [cut_take (by omega) (by rw [ln]; omega), ← List.map_take] at ekb
        rw [show ((0 : Int) + (j : Int)).toNat = j by omega] at ekb
        intro zd hzd
        have s9 := same_upd (o := .dT []) (Same.refl H8) hzd
        have ez : (upd H8 zd (.dT [])) zd = some (.dT (kvsO [])) := upd_same
        have fz : H zd = none := (s7.trans s8).free hzd
        have at8 := at7.same s8
        have nz : ∀ x ∈ W, x.2.1 ≠ zd := fun x hx z => by
          have := at8.sub x hx
          rw [z, hzd] at this
          cases this
        have ze : zd ≠ e := fun z => by
          have := at8.top
          rw [← z, hzd] at this
          cases this
        have at9 := at8.same s9
        generalize upd H8 zd (.dT []) = H9 at *
        have s79 := s8.trans s9
        refine setdE (Hb := H) (n := 1 + 11 * i + j) (m := 11 * i + j) at9 (s9 _ _ ekb) ez nz ze fr fz ok7 (fun _ _ h => ds_bs h) lW (by omega) lT fun G W2 x ov mx ex atG okG frG lW2 lT2 => ?_
        have ewG := ov wh _ (fun z => by
          have := at7.top
          rw [← z, ew] at this
          cases this) (s79 _ _ ew)
        have sG : Same H G := fun a u h => ov a u (fun z => by rw [z, he] at h; cases h) ((s7.trans s79) _ _ h)
        refine ⟨_, rfl, _, rfl, _, rfl, ?_⟩
        dsimp only [tNoPart]
        refine slA ewG fun H10 kt s10 ekt => ?_
        rw [cut_drop (by omega) (by rw [ln]; omega), ← List.map_drop, show ((0 : Int) + (j : Int)).toNat = j by omega] at ekt
        have at10 := atG.same s10
        have un : ∀ o', (w1.drop j, o') ∈ x.2.2 → o' = o := fun o' h => by
          have h := (okG.val x mx _ _).1 h
          rcases h with h | ⟨p, _, _, _, e⟩
          · unfold DL at h
            rw [ex, List.take_append_drop] at h
            have h := List.mem_of_mem_take h
            exact cl _ h _ (List.mem_of_getElem? er) rfl
          · exact e
        refine ⟨x.2.1, _, rfl, DPut.t (at10.sub x mx) (k := keyW (w1.drop j)) (by rw [keyW_V]; exact ekt) (Nat.lt_of_le_of_lt (by
          have := lT2 x mx
          unfold kvsO
          rw [List.length_map]
          omega : _ ≤ 1000) (by decide)), ?_⟩
        rw [put_kvs un]
        refine ⟨_, setE W2 x.2.1 (putT x.2.2 (w1.drop j) o), rfl, fun a u h => ?_, ?_, setE_at at10 mx _, fun y hy => ?_, setE_ok okG at10 mx (fun b u v => ?_) (fun b => ?_), ?_, fun y hy => ?_⟩
        · exact (upd_ne fun z => by rw [z, frG x mx] at h; cases h).trans (s10 _ _ (sG _ _ h))
        · exact (upd_ne fun z => by
            have := at10.sub x mx
            rw [← z, s10 _ _ ewG] at this
            cases this).trans (s10 _ _ ewG)
        · obtain ⟨y', hy', _, e2, _⟩ := setE_mem hy
          rw [e2]
          exact frG y' hy'
        · unfold DS
          constructor
          · rintro (h | ⟨p, hp, h1, h2, h3⟩)
            · exact .inl (.inl h)
            · rcases Nat.lt_succ_iff_lt_or_eq.1 hp with q | q
              · exact .inl (.inr ⟨p, q, h1, h2, h3⟩)
              · rw [q] at h1 h2
                exact .inr ⟨h1.trans ex.symm, h2, h3⟩
          · rintro ((h | ⟨p, hp, h1, h2, h3⟩) | ⟨h1, h2, h3⟩)
            · exact .inl h
            · exact .inr ⟨p, Nat.lt_succ_of_lt hp, h1, h2, h3⟩
            · exact .inr ⟨j, Nat.lt_succ_self _, h1.trans ex, h2, h3⟩
        · rw [ex]
          unfold BS
          constructor
          · rintro (h | ⟨p, hp, h1⟩)
            · exact .inl (.inl (.inl h))
            · rcases Nat.lt_succ_iff_lt_or_eq.1 hp with q | q
              · exact .inl (.inl (.inr ⟨p, q, h1⟩))
              · rw [q] at h1
                exact .inr h1
          · rintro (((h | ⟨p, hp, h1⟩) | h1) | h1)
            · exact .inl h
            · exact .inr ⟨p, Nat.lt_succ_of_lt hp, h1⟩
            · exact .inr ⟨j, Nat.lt_succ_self _, h1⟩
            · exact .inr ⟨j, Nat.lt_succ_self _, h1⟩
        · unfold setE
          rw [List.length_map]
          omega
        · obtain ⟨y', hy', _, e2, e3, e4⟩ := setE_mem hy
          by_cases c : y'.2.1 = x.2.1
          · rw [e3 c]
            have := putT_len x.2.2 (w1.drop j) o
            have := lT2 x mx
            omega
          · rw [e4 c]
            have := lT2 y' hy'
            omega
      · rintro σ H7 ⟨v5', W, rfl, s7, _, at7, fr, ok7, lW, lT⟩
        rw [show ((w1.length : Int) + 1).toNat = w1.length + 1 by omega] at ok7 lW lT
        refine ⟨_, _, _, _, W, rfl, s7, at7, fr, ?_, by omega, fun x hx => by have := lT x hx; omega⟩
        rw [take_more er]
        exact ok7.iff (fun _ _ _ => ds_all) (fun _ => bs_all)
    · rintro σ H5 ⟨v2, v3, v4, v5, W, rfl, s5, at5, fr, ok5, lW, lT⟩
      rw [List.length_map, rl.1] at lW lT ok5
      rw [List.take_length] at ok5
      exact ⟨_, rfl, fin H5 e W s5 he at5 fr ok5 (by omega) fun x hx => by have := lT x hx; omega⟩
end
end K42

set_option Elab.async false
set_option linter.all false
set_option maxRecDepth 100000
set_option maxHeartbeats 4000000
/-! any(..) of a generator whose body may do anything: draining by next -/
namespace Mz
open PySem PySem.Spec PyProof.Rows L2 GenW
/-- a truth comes out: true ends all; behind false the generator goes on -/
def YB (a : Addr) (g : Nat) (Qt : Bool → Shared → Prop) : Protocol := fun n s₀ v s1 kap =>
  s1.heap.IsGen a g ∧ s1.heap.NoLimit ∧ AllBare s1.gens ∧ ((v = .bool true ∧ ∀ G : Array GenState, AllBare G → Qt true { s1 with gens := G }) ∨ (v = .bool false ∧ ∀ G : Array GenState, AllBare G → kap (.send .none) { s1 with gens := G }))
def FB (Qt : Bool → Shared → Prop) : Nat → Shared → Shared → Prop := fun _ _ s1 => AllBare s1.gens ∧ ∀ (G : Array GenState) (h' : Heap), AllBare G → (∀ b o, s1.heap.get? b = some o → h'.get? b = some o) → Qt false { s1 with gens := G, heap := h' }
def RB (Qt : Bool → Shared → Prop) : GenEnd := fun n s₀ r s1 => ((r = .ok (.ret .none) ∨ r = .ok .next) ∧ FB Qt n s₀ s1) ∨ ∃ e, r = .error e ∧ False
theorem any_drain {P : Program} {w : World} {A : Around} {R : Result → Shared → Prop} {a : Addr} {g : Nat} {Qt : Bool → Shared → Prop} (hh : A.handled = none) (hd : A.depth < recursionLimit)
    (hR : ∀ b s', Qt b s' → R (.ok (.ret (.bool b))) s') : ∀ (m : Nat) (s : Shared), s.heap.IsGen a g → s.heap.NoLimit →
      (∃ gs, s.gens[g]? = some gs ∧ gs.Goes (model P w) A.in1.in1 (RB Qt) (YB a g Qt) m (.send .none) (s.setGen g .running)) →
      codeAny (model P w) A (.builtin "any.loop" ⟨[.ref a], []⟩) R s := by
  have goes : ∀ {gs : GenState} {B : Around} {n : Nat} {r : Resume} {s : Shared}, gs.Goes (model P w) B (RB Qt) (YB a g Qt) n r s →
      gs.Goes (model P w) B (fun n s₀ r s1 => ((r = .ok (.ret .none) ∨ r = .ok .next) ∧ FB Qt n s₀ s1) ∨ ∃ e, r = .error e ∧ (fun _ _ => False) e s1) (YB a g Qt) n r s := fun h => h
  intro m
  induction m with
  | zero =>
    intro s hg hl ⟨gs, hgs, hgo⟩
    refine codeAny_builtin F.entry_any_loop ?_
    rw [Around.under_plainId F.plain_any_loop _]
    show wpAny _ A.in1 (pyNext (.ref a) >>= _) _ _ s
    refine wpAny_bind (next_genG (A := A.in1) hh hl hd hg hgs (goes hgo) (fun v s₁ gs' hbare hv => ?_) (fun s₁ hp h' hk => ?_) fun e s₁ he => ?_)
    · obtain ⟨hg1, hl1, hb1, h1 | h1⟩ := hv
      · obtain ⟨rfl, hq⟩ := h1
        refine wpAny_bind (wpAny_holding (wpAny_truthy_bool (wpAny_bind (wpAny_letGo ?_))))
        simp only [if_true]
        exact wpAny_bind (wpAny_rule (wpAny_pure (hR true _ (hq _ (allBare_setGen hb1 hbare)))))
      · exact (h1.2 #[] (fun y hy => absurd hy (by simp))).elim
    · exact wpAny_bind (wpAny_rule (wpAny_pure (hR false _ (hp.2 _ h' (allBare_setGen hp.1 rfl) hk))))
    · exact he.elim
  | succ m ih =>
    intro s hg hl ⟨gs, hgs, hgo⟩
    have hgl : g < s.gens.size := (Array.getElem?_eq_some_iff.mp hgs).1
    refine codeAny_builtin F.entry_any_loop ?_
    rw [Around.under_plainId F.plain_any_loop _]
    show wpAny _ A.in1 (pyNext (.ref a) >>= _) _ _ s
    refine wpAny_bind (wpAny_gsz (n := g + 1) hgl (next_genG (A := A.in1) hh hl hd hg hgs (goes hgo) (fun v s₁ gs' hbare hv => ?_) (fun s₁ hp h' hk => ?_) fun e s₁ he => ?_))
    · intro hsz
      obtain ⟨hg1, hl1, hb1, h1 | h1⟩ := hv
      · obtain ⟨rfl, hq⟩ := h1
        refine wpAny_bind (wpAny_holding (wpAny_truthy_bool (wpAny_bind (wpAny_letGo ?_))))
        simp only [if_true]
        exact wpAny_bind (wpAny_rule (wpAny_pure (hR true _ (hq _ (allBare_setGen hb1 hbare)))))
      · obtain ⟨rfl, hk⟩ := h1
        refine wpAny_bind (wpAny_holding (wpAny_truthy_bool (wpAny_bind (wpAny_letGo ?_))))
        simp only [Bool.false_eq_true, if_false]
        have hsz1 : g < s₁.gens.size := by
          have q : (s₁.setGen g gs').gens.size = s₁.gens.size := setGen_size _ _ _
          have hsz' : g + 1 ≤ (s₁.setGen g gs').gens.size := hsz
          omega
        refine wpAny_pure ⟨plainId_quiet F.plain_any_loop _, ih (s₁.setGen g gs') hg1 hl1 ⟨gs', setGen_at hsz1, ?_⟩⟩
        exact hk _ (allBare_setGen (s := s₁.setGen g gs') (allBare_setGen hb1 hbare) rfl)
    · intro hsz
      exact wpAny_bind (wpAny_rule (wpAny_pure (hR false _ (hp.2 _ h' (allBare_setGen hp.1 rfl) hk))))
    · exact he.elim
/-- any(g) -/
theorem call_any_gen {P : Program} {w : World} {A : Around} {a : Addr} {g m : Nat} {Qt : Bool → Shared → Prop} {gs : GenState} {s : Shared} {Q : Value → Shared → Prop} {E : Value → Shared → Prop} (hh : A.handled = none) (hd : A.depth < recursionLimit)
    (hg : s.heap.IsGen a g) (hl : s.heap.NoLimit) (hgs : s.gens[g]? = some gs) (hgo : gs.Goes (model P w) A.in1.in1 (RB Qt) (YB a g Qt) m (.send .none) (s.setGen g .running))
    (hQ : ∀ b s', Qt b s' → Q (.bool b) s') : wpAny (model P w) A (call (.builtin "any") [.ref a]) Q E s := by
  refine call_function_tree F.kind_any F.plain_any F.entry_any (F.args_any1 _) ?_
  unfold Builtin.«any»
  refine wpAny_bind (m := oneArg "any" _) (wpAny_pure ?_)
  refine wpAny_bind (wpAny_pyIter_gen hg ?_)
  exact wpAny_pure ⟨plainId_quiet F.plain_any_loop _, any_drain hh hd (fun b s' h => hQ b s' h) m s hg hl ⟨gs, hgs, hgo⟩⟩
/-- a truth comes out: false ends all; behind true the generator goes on -/
def YA (a : Addr) (g : Nat) (Qt : Bool → Shared → Prop) : Protocol := fun n s₀ v s1 kap =>
  s1.heap.IsGen a g ∧ s1.heap.NoLimit ∧ AllBare s1.gens ∧ ((v = .bool false ∧ ∀ G : Array GenState, AllBare G → Qt false { s1 with gens := G }) ∨ (v = .bool true ∧ ∀ G : Array GenState, AllBare G → kap (.send .none) { s1 with gens := G }))
def FA (Qt : Bool → Shared → Prop) : Nat → Shared → Shared → Prop := fun _ _ s1 => AllBare s1.gens ∧ ∀ (G : Array GenState) (h' : Heap), AllBare G → (∀ b o, s1.heap.get? b = some o → h'.get? b = some o) → Qt true { s1 with gens := G, heap := h' }
def RA (Qt : Bool → Shared → Prop) : GenEnd := fun n s₀ r s1 => ((r = .ok (.ret .none) ∨ r = .ok .next) ∧ FA Qt n s₀ s1) ∨ ∃ e, r = .error e ∧ False
theorem all_drain {P : Program} {w : World} {A : Around} {R : Result → Shared → Prop} {a : Addr} {g : Nat} {Qt : Bool → Shared → Prop} (hh : A.handled = none) (hd : A.depth < recursionLimit)
    (hR : ∀ b s', Qt b s' → R (.ok (.ret (.bool b))) s') : ∀ (m : Nat) (s : Shared), s.heap.IsGen a g → s.heap.NoLimit →
      (∃ gs, s.gens[g]? = some gs ∧ gs.Goes (model P w) A.in1.in1 (RA Qt) (YA a g Qt) m (.send .none) (s.setGen g .running)) →
      codeAny (model P w) A (.builtin "all.loop" ⟨[.ref a], []⟩) R s := by
  have goes : ∀ {gs : GenState} {B : Around} {n : Nat} {r : Resume} {s : Shared}, gs.Goes (model P w) B (RA Qt) (YA a g Qt) n r s →
      gs.Goes (model P w) B (fun n s₀ r s1 => ((r = .ok (.ret .none) ∨ r = .ok .next) ∧ FA Qt n s₀ s1) ∨ ∃ e, r = .error e ∧ (fun _ _ => False) e s1) (YA a g Qt) n r s := fun h => h
  intro m
  induction m with
  | zero =>
    intro s hg hl ⟨gs, hgs, hgo⟩
    refine codeAny_builtin F.entry_all_loop ?_
    rw [Around.under_plainId F.plain_all_loop _]
    show wpAny _ A.in1 (pyNext (.ref a) >>= _) _ _ s
    refine wpAny_bind (next_genG (A := A.in1) hh hl hd hg hgs (goes hgo) (fun v s₁ gs' hbare hv => ?_) (fun s₁ hp h' hk => ?_) fun e s₁ he => ?_)
    · obtain ⟨hg1, hl1, hb1, h1 | h1⟩ := hv
      · obtain ⟨rfl, hq⟩ := h1
        refine wpAny_bind (wpAny_holding (wpAny_truthy_bool (wpAny_bind (wpAny_letGo ?_))))
        simp only [Bool.false_eq_true, if_false]
        exact wpAny_bind (wpAny_rule (wpAny_pure (hR false _ (hq _ (allBare_setGen hb1 hbare)))))
      · exact (h1.2 #[] (fun y hy => absurd hy (by simp))).elim
    · exact wpAny_bind (wpAny_rule (wpAny_pure (hR true _ (hp.2 _ h' (allBare_setGen hp.1 rfl) hk))))
    · exact he.elim
  | succ m ih =>
    intro s hg hl ⟨gs, hgs, hgo⟩
    have hgl : g < s.gens.size := (Array.getElem?_eq_some_iff.mp hgs).1
    refine codeAny_builtin F.entry_all_loop ?_
    rw [Around.under_plainId F.plain_all_loop _]
    show wpAny _ A.in1 (pyNext (.ref a) >>= _) _ _ s
    refine wpAny_bind (wpAny_gsz (n := g + 1) hgl (next_genG (A := A.in1) hh hl hd hg hgs (goes hgo) (fun v s₁ gs' hbare hv => ?_) (fun s₁ hp h' hk => ?_) fun e s₁ he => ?_))
    · intro hsz
      obtain ⟨hg1, hl1, hb1, h1 | h1⟩ := hv
      · obtain ⟨rfl, hq⟩ := h1
        refine wpAny_bind (wpAny_holding (wpAny_truthy_bool (wpAny_bind (wpAny_letGo ?_))))
        simp only [Bool.false_eq_true, if_false]
        exact wpAny_bind (wpAny_rule (wpAny_pure (hR false _ (hq _ (allBare_setGen hb1 hbare)))))
      · obtain ⟨rfl, hk⟩ := h1
        refine wpAny_bind (wpAny_holding (wpAny_truthy_bool (wpAny_bind (wpAny_letGo ?_))))
        simp only [if_true]
        have hsz1 : g < s₁.gens.size := by
          have q : (s₁.setGen g gs').gens.size = s₁.gens.size := setGen_size _ _ _
          have hsz' : g + 1 ≤ (s₁.setGen g gs').gens.size := hsz
          omega
        refine wpAny_pure ⟨plainId_quiet F.plain_all_loop _, ih (s₁.setGen g gs') hg1 hl1 ⟨gs', setGen_at hsz1, ?_⟩⟩
        exact hk _ (allBare_setGen (s := s₁.setGen g gs') (allBare_setGen hb1 hbare) rfl)
    · intro hsz
      exact wpAny_bind (wpAny_rule (wpAny_pure (hR true _ (hp.2 _ h' (allBare_setGen hp.1 rfl) hk))))
    · exact he.elim
/-- all(g) -/
theorem call_all_gen {P : Program} {w : World} {A : Around} {a : Addr} {g m : Nat} {Qt : Bool → Shared → Prop} {gs : GenState} {s : Shared} {Q : Value → Shared → Prop} {E : Value → Shared → Prop} (hh : A.handled = none) (hd : A.depth < recursionLimit)
    (hg : s.heap.IsGen a g) (hl : s.heap.NoLimit) (hgs : s.gens[g]? = some gs) (hgo : gs.Goes (model P w) A.in1.in1 (RA Qt) (YA a g Qt) m (.send .none) (s.setGen g .running))
    (hQ : ∀ b s', Qt b s' → Q (.bool b) s') : wpAny (model P w) A (call (.builtin "all") [.ref a]) Q E s := by
  refine call_function_tree F.kind_all F.plain_all F.entry_all (F.args_all1 _) ?_
  unfold Builtin.«all»
  refine wpAny_bind (m := oneArg "all" _) (wpAny_pure ?_)
  refine wpAny_bind (wpAny_pyIter_gen hg ?_)
  exact wpAny_pure ⟨plainId_quiet F.plain_all_loop _, all_drain hh hd (fun b s' h => hQ b s' h) m s hg hl ⟨gs, hgs, hgo⟩⟩
end Mz

set_option Elab.async false
set_option linter.all false
set_option maxRecDepth 100000
set_option maxHeartbeats 4000000
/-! a generator expression's own code, its element anything: an invariant J goes from turn to turn -/
namespace Mz
open PySem PySem.Spec PyProof.Rows L2 GenW
section
variable {prog : Program} {w : World} {A : Around}
theorem seg_genI {elt iter tg : Expr} {scope : Scope} {pos : Pos} {I : Addr} {n₀ : Nat} {cenv : Env} {R : GenEnd} {Y : Protocol}
    (J : Nat → Shared → Prop) (YY : Nat → Value → Shared → Prop) (D : Shared → Prop) (hco : cenv.scope.isCoroutine = false)
    (done : ∀ s, J n₀ s → wpAny (model prog w) (A.over (.compLoop (.GeneratorExp elt [⟨tg, iter, [], 0⟩] scope pos) 0 (.ref I) .none cenv) []) (pyNext (.ref I)) (fun r s' => r = none ∧ D s') (fun _ _ => False) s)
    (item : ∀ i s, i < n₀ → J i s → wpAny (model prog w) (A.over (.compLoop (.GeneratorExp elt [⟨tg, iter, [], 0⟩] scope pos) 0 (.ref I) .none cenv) []) (pyNext (.ref I)) (fun r s0 => ∃ v, r = some v ∧ wpAny (model prog w) (A.over (.compLoop (.GeneratorExp elt [⟨tg, iter, [], 0⟩] scope pos) 0 (.ref I) .none cenv) []) (letOwnedTupleGo tg (.ref I) v) (fun _ s1 =>
      wpAny (model prog w) (A.over (.compLoop (.GeneratorExp elt [⟨tg, iter, [], 0⟩] scope pos) 0 (.ref I) .none cenv) []) (assign tg cenv v) (fun _ s2 =>
        wpAny (model prog w) (A.over (.compLoop (.GeneratorExp elt [⟨tg, iter, [], 0⟩] scope pos) 0 (.ref I) .none cenv) []) (eval elt cenv) (fun y s3 => YY i y s3) (fun _ _ => False) s2) (fun _ _ => False) s1) (fun _ _ => False) s0) (fun _ _ => False) s)
    (hR : ∀ n s₀ s, D s → R n s₀ (.ok .next) s)
    (hY : ∀ n s₀ i y s, i < n₀ → YY i y s → ∀ kap : Resume → Shared → Prop, (∀ s'', J (i + 1) s'' → kap (.send .none) s'') → Y n s₀ y s kap) :
    ∀ (k i : Nat) (s₀ s : Shared), n₀ - i = k → i ≤ n₀ → J i s →
      Seg (model prog w) A R Y k s₀
        (.compLoop (.GeneratorExp elt [⟨tg, iter, [], 0⟩] scope pos) 0 (.ref I) .none cenv)
        ((model prog w).den (.compLoop (.GeneratorExp elt [⟨tg, iter, [], 0⟩] scope pos) 0 (.ref I) .none cenv)) [] s := by
  intro k
  induction k with
  | zero =>
    intro i s₀ s hk hi hJ
    have hin : i = n₀ := by omega
    subst hin
    show Seg _ A _ _ _ s₀ _ ((compTurn (.GeneratorExp elt [⟨tg, iter, [], 0⟩] scope pos) 0 (.ref I) .none cenv).onRaise (leaving cenv)) [] s
    rw [compTurn_gen, Sem.onRaise_eq_wrap]
    refine seg_bind_wrap (wpAny_standAt ?_)
    refine seg_bind_wrap (wpAny_mono (done s hJ) (fun r s' h' => ?_) fun _ _ e => e.elim)
    obtain ⟨rfl, hD⟩ := h'
    exact seg_end (.ok .next) (hR _ _ _ hD)
  | succ k ih =>
    intro i s₀ s hk hi hJ
    have hlt : i < n₀ := by omega
    show Seg _ A _ _ _ s₀ _ ((compTurn (.GeneratorExp elt [⟨tg, iter, [], 0⟩] scope pos) 0 (.ref I) .none cenv).onRaise (leaving cenv)) [] s
    rw [compTurn_gen, Sem.onRaise_eq_wrap]
    refine seg_bind_wrap (wpAny_standAt ?_)
    refine seg_bind_wrap (wpAny_mono (item i s hlt hJ) (fun r s1 h1 => ?_) fun _ _ e => e.elim)
    obtain ⟨v, rfl, h1⟩ := h1
    refine seg_bind_wrap (wpAny_mono h1 (fun _ s1' h1 => ?_) fun _ _ e => e.elim)
    refine seg_bind_wrap (wpAny_mono h1 (fun _ s2 h2 => ?_) fun _ _ e => e.elim)
    refine seg_bind_wrap (wpAny_of_eq (a := true) (by simp only [List.forIn_nil]) ?_)
    simp only [if_true]
    have hy : ∀ v, yieldOut cenv v = yieldValue v := fun v => by simp only [yieldOut, hco, Bool.false_eq_true, if_false]
    simp only [hy]
    rw [Sem.bind_eq_wrap', Sem.bind_eq_wrap', Sem.wrap_wrap, Sem.wrap_wrap]
    refine seg_wrap (wpAny_mono h2 (fun y s3 h3 => ?_) fun _ _ e => e.elim)
    refine seg_at (seg_yield rfl rfl rfl (hY _ _ i y s3 hlt h3 _ fun s'' hJ' => ?_))
    exact seg_again rfl (ih (i + 1) s'' s'' (by omega) hlt hJ')

theorem seg_genStartI {elt iter tg : Expr} {scope : Scope} {pos : Pos} {I : Addr} {n₀ : Nat} {cenv : Env} {R : GenEnd} {Y : Protocol}
    (J : Nat → Shared → Prop) (YY : Nat → Value → Shared → Prop) (D : Shared → Prop) (hco : cenv.scope.isCoroutine = false)
    (done : ∀ s, J n₀ s → wpAny (model prog w) (A.over (.compLoop (.GeneratorExp elt [⟨tg, iter, [], 0⟩] scope pos) 0 (.ref I) .none cenv) []) (pyNext (.ref I)) (fun r s' => r = none ∧ D s') (fun _ _ => False) s)
    (item : ∀ i s, i < n₀ → J i s → wpAny (model prog w) (A.over (.compLoop (.GeneratorExp elt [⟨tg, iter, [], 0⟩] scope pos) 0 (.ref I) .none cenv) []) (pyNext (.ref I)) (fun r s0 => ∃ v, r = some v ∧ wpAny (model prog w) (A.over (.compLoop (.GeneratorExp elt [⟨tg, iter, [], 0⟩] scope pos) 0 (.ref I) .none cenv) []) (letOwnedTupleGo tg (.ref I) v) (fun _ s1 =>
      wpAny (model prog w) (A.over (.compLoop (.GeneratorExp elt [⟨tg, iter, [], 0⟩] scope pos) 0 (.ref I) .none cenv) []) (assign tg cenv v) (fun _ s2 =>
        wpAny (model prog w) (A.over (.compLoop (.GeneratorExp elt [⟨tg, iter, [], 0⟩] scope pos) 0 (.ref I) .none cenv) []) (eval elt cenv) (fun y s3 => YY i y s3) (fun _ _ => False) s2) (fun _ _ => False) s1) (fun _ _ => False) s0) (fun _ _ => False) s)
    (self : ∀ s, J 0 s → ∀ (Q : Value → Shared → Prop) (E : Value → Shared → Prop), Q (.ref I) s → wpAny (model prog w) (A.over (.compStart (.GeneratorExp elt [⟨tg, iter, [], 0⟩] scope pos) 0 (.ref I) .none cenv) []) (pyIter (.ref I)) Q E s)
    (hR : ∀ n s₀ s, D s → R n s₀ (.ok .next) s)
    (hY : ∀ n s₀ i y s, i < n₀ → YY i y s → ∀ kap : Resume → Shared → Prop, (∀ s'', J (i + 1) s'' → kap (.send .none) s'') → Y n s₀ y s kap)
    (s₀ s : Shared) (hJ : J 0 s) :
    Seg (model prog w) A R Y n₀ s₀
      (.compStart (.GeneratorExp elt [⟨tg, iter, [], 0⟩] scope pos) 0 (.ref I) .none cenv)
      ((model prog w).den (.compStart (.GeneratorExp elt [⟨tg, iter, [], 0⟩] scope pos) 0 (.ref I) .none cenv)) [] s := by
  have loop := seg_genI J YY D hco done item hR hY n₀ 0 s₀ s (Nat.sub_zero _) (Nat.zero_le _) hJ
  show Seg _ A _ _ _ s₀ _ ((compStart (.GeneratorExp elt [⟨tg, iter, [], 0⟩] scope pos) 0 (.ref I) .none cenv).onRaise (leaving cenv)) [] s
  unfold compStart
  rw [Sem.onRaise_eq_wrap]
  show Seg _ A _ _ _ s₀ _ ((ask >>= _).wrap _ _ _ _) [] s
  refine seg_bind_wrap (wpAny_askSetting ?_)
  split
  · exact seg_again rfl loop
  · first
      | exact seg_bind_wrap (wpAny_rule (seg_bind_wrap (wpAny_standAt (seg_bind_wrap (self s hJ _ _ (seg_again rfl loop))))))
      | (refine seg_bind_wrap (wpAny_rule ?_); show Seg _ A _ _ _ s₀ _ ((standAt iter.pos >>= _).wrap _ _ _ _) [] s; exact seg_bind_wrap (wpAny_standAt (seg_bind_wrap (self s hJ _ _ (seg_again rfl loop)))))
end
end Mz

set_option Elab.async false
set_option linter.all false
set_option maxRecDepth 100000
set_option maxHeartbeats 4000000
/-! the context of a generator expression's own scope -/
namespace Mz
open PySem PySem.Spec PyProof.Rows L2 GenW
/-- the generator expression's scope: «.0», its name x, captured names -/
structure GenF (sc scope : Scope) (x : Str) : Prop where
  kind : scope.kind = .function
  co : scope.isCoroutine = false
  cell : ∀ y ∈ scope.names, y.2 ≠ .cell
  dot : scope.names.lookup (".0" : Str) = some NameKind.local
  loc : scope.names.lookup x = some .local
  free : ∀ y ∈ scope.names, y.2 = .free → sc.names.lookup y.1 = some .cell ∨ sc.names.lookup y.1 = some .free
theorem GenF.has {X : Cx} {scope : Scope} {x : Str} (L : GenF X.env.scope scope x) (ok : X.Ok) : ∀ y ∈ scope.names, y.2 = .free → ∃ c, X.env.cells.lookup y.1 = some c := fun y hy e => by
  rcases L.free y hy e with k | k
  · exact ok.has _ (.inl k)
  · exact ok.has _ (.inr k)
abbrev gEnv (X : Cx) (scope : Scope) (C : Addr) (code : Value) : Env := genEnv scope (cloFrom X.env.cells scope.names []) C code builtinsNs X.env
/-- the context of its element, made at s -/
def genCx (X : Cx) (A : Around) (scope : Scope) (s : Shared) (H : Hp) (code : Value) (N' : List Str) (fp : List Addr) : Cx where
  prog := X.prog
  w := X.w
  K := X.K
  mg := X.mg
  base := X.base
  A := A
  N := N'
  s_0 := s
  H_0 := H
  env := gEnv X scope s.heap.objs.size code
  outer := X.stack
  stack := gEnv X scope s.heap.objs.size code :: X.stack
  ex := fp
  fn := fun _ => false
  calm := true
  pn := []
  xe := fun _ _ => False
section
variable {X : Cx} {pins : List (Addr × Obj)} {σ : L2.St} {H : Hp} {s s5 : Shared}
theorem gen_start {A : Around} {scope : Scope} {x : Str} {code it : Value} {N' : List Str} {fp : List Addr} {σ' : L2.St} (hfp : ∀ b ∈ fp, FpOk X pins H b ∧ b < s.heap.objs.size) (I : Inv X pins σ H s) (L : GenF X.env.scope scope x) (hd : A.handled = none) (hfr : A.frames = some (gEnv X scope s.heap.objs.size code :: X.stack))
    (hl : σ'.length = N'.length) (hσ : ∀ (i : Nat) (y : Str) (v : V), N'[i]? = some y → σ'[i]? = some (some v) → (scope.names.lookup y = some .local → False) ∧ (scope.names.lookup y = some .free → ∃ j : Nat, X.N[j]? = some y ∧ σ[j]? = some (some v)))
    (hns : s5.heap.Ns s.heap.objs.size fun y => if y = ".0" then some it else none) (kp : ∀ b o, s.heap.get? b = some o → s5.heap.get? b = some o) (hos : s5.os = s.os) (hb : AllBare s5.gens) :
    Inv (genCx X A scope s H code N' fp) [] σ' H s5 := by
  have hfree := L.has I.ok
  have e0 := I.env0
  have cm : ∀ {y c}, (cloFrom X.env.cells scope.names []).lookup y = some c → X.env.cells.lookup y = some c := fun {y c} e => by
    rcases cloFrom_mem (PySem.mem_of_lookup e) with hm | ⟨h1, h2⟩
    · cases hm
    · obtain ⟨c1, hc⟩ := hfree _ h1 rfl
      have hc : X.env.cells.lookup y = some c1 := hc
      have e2 : c = c1 := by
        rw [h2, hc] <;> rfl
      rw [e2]
      exact hc
  have look : ∀ {y}, scope.names.lookup y = some .free → ∃ c, (cloFrom X.env.cells scope.names []).lookup y = some c := fun {y} hl => by
    have hy : (y, NameKind.free) ∈ scope.names := PySem.mem_of_lookup hl
    exact mem_lookup (cloFrom_has (cells := X.env.cells) (acc := []) hy)
  have cellK : ∀ {c : Addr} {v : Option Value}, s.heap.IsCell c v → s5.heap.IsCell c v := fun {c v} ⟨o, ho, hd⟩ => ⟨_, kp _ _ ho, hd⟩
  refine ⟨⟨e0.mod, L.kind, I.ok.glob, rfl, Nat.le_refl _, fun y z c e1 e2 => I.ok.inj y z c (cm e1) (cm e2), fun y hy => ?_, fun y c z _ => ?_, fun _ => hd, hfr, .inr ⟨rfl, rfl⟩, fun b z => ?_, e0.bs, e0.bsz, fun b o e z => ?_,
      fun b z hm => ?_, e0.funs, e0.frf⟩,
    hos, hb, Un.kept kp, ⟨_, hns, fun i y v e1 e2 e3 => ?_⟩, fun y c e => ?_, I.hok.fresh (Nat.le_refl _), fun y c e => ?_, fun q hq => absurd (show q ∈ ([] : List (Addr × Obj)) ++ [] from hq) (by simp), I.hok.kept kp, hl⟩
  · have hy : scope.names.lookup y = some .cell ∨ scope.names.lookup y = some .free := hy
    rcases hy with hy | hy
    · exact absurd rfl (L.cell _ (PySem.mem_of_lookup hy))
    · exact look hy
  · have z : false = true := z
    cases z
  · obtain ⟨f, hlt⟩ := hfp b z
    exact ⟨Nat.ne_of_lt hlt, fun y c e => f.2.2.2.2.1 y c (cm e)⟩
  · obtain ⟨⟨_, _, _, f3, _⟩, _⟩ := hfp b z
    rcases f3 with f3 | f3
    · exact I.ok.noex b o e f3
    · exact absurd (Nat.lt_of_lt_of_le (Heap.lt_size e) I.ok.bsz) (Nat.not_lt.mpr f3)
  · obtain ⟨⟨_, f1, f2, _⟩, _⟩ := hfp b z
    rcases List.mem_cons.mp (I.stkSub b hm) with q | q
    · exact f1 q
    · exact f2 q
  · have e3 : Vis scope y := e3
    rcases e3 with k | k | k
    · exact ((hσ i y v e1 e2).1 k).elim
    · exact absurd rfl (L.cell _ (PySem.mem_of_lookup k))
    · obtain ⟨j, f1, f2⟩ := (hσ i y v e1 e2).2 k
      obtain ⟨m, hn, hl⟩ := I.loc
      have hvis : Vis X.env.scope y := (L.free _ (PySem.mem_of_lookup k) rfl).elim (fun k => .inr (.inl k)) (fun k => .inr (.inr k))
      obtain ⟨w', r, q⟩ := hl j y v f1 f2 hvis
      obtain ⟨c2, h2⟩ := look k
      refine ⟨w', r, .inr ⟨.inr k, c2, h2, ?_⟩⟩
      have c1 := cm h2
      rcases q with ⟨k', _⟩ | ⟨_, c3, e', z⟩
      · have k' : X.env.scope.names.lookup y = some .local := k'
        rcases L.free _ (PySem.mem_of_lookup k) rfl with k2 | k2 <;> rw [show X.env.scope.names.lookup y = _ from k2] at k' <;> cases k'
      · have e4 : some c2 = some c3 := c1.symm.trans e'
        cases e4
        exact cellK z
  · obtain ⟨v, q⟩ := I.cell y c (cm e)
    exact ⟨v, cellK q⟩
  · exact I.freeC y c (cm e)
end
end Mz

set_option Elab.async false
set_option linter.all false
set_option maxRecDepth 100000
set_option maxHeartbeats 4000000
/-! any(elt for tg in iter), the element anything -/
namespace Mz
open PySem PySem.Spec PyProof.Rows L2 GenW GxR
section
variable {X : Cx} {pins : List (Addr × Obj)} {σ : L2.St} {H : Hp} {s s5 : Shared}
theorem any_run {elt iter tg : Expr} {scope : Scope} {x : Str} {gpos : Pos} {code itv : Value} {N' : List Str} {fp : List Addr} {σ' : L2.St} {a it : Addr} {g k n₀ : Nat} {tn : Nat → Heap → Prop} {J : It} {gt : TG} {te : TE} {W : Nat → L2.St → Hp → Prop} {Q : VK} {E : Value → Shared → Prop}
    (hr : Room (k + 3) X.A) (I : Inv X pins σ H s) (L : GenF X.env.scope scope x) (T : Turn X.prog X.w X.K tg J fp it tn) (st : tn 0 s.heap) (f2 : ∀ b ∈ fp, FpOk X pins H b)
    (hl : σ'.length = N'.length) (hσ : ∀ (i : Nat) (y : Str) (v : V), N'[i]? = some y → σ'[i]? = some (some v) → (scope.names.lookup y = some .local → False) ∧ (scope.names.lookup y = some .free → ∃ j : Nat, X.N[j]? = some y ∧ σ[j]? = some (some v)))
    (hns : s5.heap.Ns s.heap.objs.size fun y => if y = ".0" then some itv else none) (kp : ∀ b o, s.heap.get? b = some o → s5.heap.get? b = some o) (hos : s5.os = s.os) (hb : AllBare s5.gens)
    (ha : s.heap.objs.size < a) (hg : s5.heap.IsGen a g) (hgs : s5.gens[g]? = some (.fresh (.compStart (.GeneratorExp elt [⟨tg, iter, [], 0⟩] scope gpos) 0 (.ref it) .none (gEnv X scope s.heap.objs.size code))))
    (hel : ∀ A : Around, Room k A → A.frames = some (gEnv X scope s.heap.objs.size code :: X.stack) → PG (genCx X A scope s H code N' fp) tg gt ∧ PE (genCx X A scope s H code N' fp) elt te)
    (w0 : W 0 σ' H) (turn : ∀ i σ1 H1, i < n₀ → W i σ1 H1 → J.go i H1 ∧ ∀ v H2, J.yld i H1 v H2 → gt v σ1 H2 fun σ2 H3 => te σ2 H3 fun r H4 => ∃ b, r = .bl b ∧ (b = true → Q (.bl true) H4) ∧ (b = false → W (i + 1) σ2 H4))
    (stop : ∀ σ1 H1, W n₀ σ1 H1 → J.stop n₀ H1 ∧ Q (.bl false) H1) :
    wpAny (model X.prog X.w) X.A (call (.builtin "any") [.ref a]) (EP X pins σ Q) E s5 := by
  obtain ⟨go, nm, qn, ho, hc, hdd, hsl⟩ := id hg
  have hrl : Room k (X.A.in1.in1.over (.compLoop (.GeneratorExp elt [⟨tg, iter, [], 0⟩] scope gpos) 0 (.ref it) .none (gEnv X scope s.heap.objs.size code)) []) :=
    ⟨hr.hd, by have := hr.dp; show X.A.depth + 1 + 3 * k + 5 < _; omega, by have := hr.un; show X.A.units + 1 + 1 + 3 + 16 * k + 200 < _; omega⟩
  have hfl : (X.A.in1.in1.over (.compLoop (.GeneratorExp elt [⟨tg, iter, [], 0⟩] scope gpos) 0 (.ref it) .none (gEnv X scope s.heap.objs.size code)) []).frames = some (gEnv X scope s.heap.objs.size code :: X.stack) := by
    show pushEnvs [gEnv X scope s.heap.objs.size code] X.A.frames = _
    rw [I.ok.frames]
    rfl
  obtain ⟨hpg, hpe⟩ := hel _ hrl hfl
  have hlt : ∀ b ∈ fp, b < s.heap.objs.size := fun b hb => by
    obtain ⟨o, e, _⟩ := T.obj _ _ st b hb
    exact Heap.lt_size e
  have I0 := gen_start (N' := N') (fp := fp) (σ' := σ') (it := itv) (code := code) (fun b hb => ⟨f2 b hb, hlt b hb⟩) I L hrl.hd hfl hl hσ hns kp hos hb
  have I5 := I0.pins_of (pins' := [(a, go)]) fun p hp => by
    rw [List.mem_singleton.mp hp]
    refine ⟨ho, I.hok.fresh (Nat.le_of_lt ha), Nat.ne_of_gt ha, fun hm => ?_, fun v q => by rw [show go.data = _ from hdd] at q; cases q⟩
    rcases List.mem_cons.mp (I.stkSub a hm) with q | q
    · have h1 := I.lt
      rw [← q] at h1
      exact Nat.lt_irrefl _ (Nat.lt_trans h1 ha)
    · exact I.nofs (Nat.le_of_lt ha) q
  have stat : ∀ {H1 : Hp}, (∀ b ∈ fp, H1 b = none) → ∀ b ∈ fp, FpOk (genCx X (X.A.in1.in1.over (.compLoop (.GeneratorExp elt [⟨tg, iter, [], 0⟩] scope gpos) 0 (.ref it) .none (gEnv X scope s.heap.objs.size code)) []) scope s H code N' fp) [(a, go)] H1 b :=
    fun {H1} hn b hb => ⟨hn b hb, (I0.ok.exf b hb).1, I0.ok.exfs b hb, .inl hb, (I0.ok.exf b hb).2, fun p hp => by
      have hp : p ∈ ([] : List (Addr × Obj)) ++ [(a, go)] := hp
      rw [List.nil_append, List.mem_singleton] at hp
      rw [hp]
      exact Nat.ne_of_gt (Nat.lt_trans (hlt b hb) ha)⟩
  have regen : ∀ {σ1 : L2.St} {H1 : Hp} {s' : Shared} (G : Array GenState), AllBare G → Inv (genCx X (X.A.in1.in1.over (.compLoop (.GeneratorExp elt [⟨tg, iter, [], 0⟩] scope gpos) 0 (.ref it) .none (gEnv X scope s.heap.objs.size code)) []) scope s H code N' fp) [(a, go)] σ1 H1 s' →
      Inv (genCx X (X.A.in1.in1.over (.compLoop (.GeneratorExp elt [⟨tg, iter, [], 0⟩] scope gpos) 0 (.ref it) .none (gEnv X scope s.heap.objs.size code)) []) scope s H code N' fp) [(a, go)] σ1 H1 { s' with gens := G } :=
    fun {σ1 H1 s'} G hG K => K.call' (ch := []) (s' := { s' with gens := G }) rfl Un.refl K.hok hG fun b z => absurd z (by simp)
  have back : ∀ {σ1 : L2.St} {H1 : Hp} {s' : Shared} (G : Array GenState) (h' : Heap), AllBare G → (∀ b o, s'.heap.get? b = some o → h'.get? b = some o) → Inv (genCx X (X.A.in1.in1.over (.compLoop (.GeneratorExp elt [⟨tg, iter, [], 0⟩] scope gpos) 0 (.ref it) .none (gEnv X scope s.heap.objs.size code)) []) scope s H code N' fp) [(a, go)] σ1 H1 s' →
      Inv X pins σ H1 { s' with gens := G, heap := h' } := fun {σ1 H1 s'} G h' hG hk K =>
    I.call' (ch := fp) (s' := { s' with gens := G, heap := h' }) K.os (Un.trans K.base (Un.kept hk)) (K.hok.kept hk) hG fun b hb => ⟨(f2 b hb).2.2.2.1, (f2 b hb).2.1, (f2 b hb).2.2.2.2.1, (f2 b hb).2.2.2.2.2⟩
  have gen : ∀ {σ1 : L2.St} {H1 : Hp} {s' : Shared}, Inv (genCx X (X.A.in1.in1.over (.compLoop (.GeneratorExp elt [⟨tg, iter, [], 0⟩] scope gpos) 0 (.ref it) .none (gEnv X scope s.heap.objs.size code)) []) scope s H code N' fp) [(a, go)] σ1 H1 s' → s'.heap.IsGen a g :=
    fun {σ1 H1 s'} K => ⟨go, nm, qn, (K.pin (a, go) (List.mem_append_right _ (List.mem_singleton.mpr rfl))).1, hc, hdd, hsl⟩
  refine call_any_gen (m := n₀) (Qt := fun b s' => EP X pins σ Q (.bool b) s') hr.hd hr.depth hg I0.nolimit hgs ⟨rfl, ?_⟩ (fun b s' h => h)
  refine seg_genStartI (n₀ := n₀)
    (fun i s' => ∃ σ1 H1, Inv (genCx X (X.A.in1.in1.over (.compLoop (.GeneratorExp elt [⟨tg, iter, [], 0⟩] scope gpos) 0 (.ref it) .none (gEnv X scope s.heap.objs.size code)) []) scope s H code N' fp) [(a, go)] σ1 H1 s' ∧ tn i s'.heap ∧ (∀ b ∈ fp, H1 b = none) ∧ W i σ1 H1)
    (fun i y s' => ∃ σ1 H1 b, y = .bool b ∧ Inv (genCx X (X.A.in1.in1.over (.compLoop (.GeneratorExp elt [⟨tg, iter, [], 0⟩] scope gpos) 0 (.ref it) .none (gEnv X scope s.heap.objs.size code)) []) scope s H code N' fp) [(a, go)] σ1 H1 s' ∧ tn (i + 1) s'.heap ∧ (∀ b ∈ fp, H1 b = none) ∧
      (b = true → Q (.bl true) H1) ∧ (b = false → W (i + 1) σ1 H1))
    (fun s' => ∃ σ1 H1, Inv (genCx X (X.A.in1.in1.over (.compLoop (.GeneratorExp elt [⟨tg, iter, [], 0⟩] scope gpos) 0 (.ref it) .none (gEnv X scope s.heap.objs.size code)) []) scope s H code N' fp) [(a, go)] σ1 H1 s' ∧ Q (.bl false) H1)
    L.co ?_ ?_ ?_ ?_ ?_ _ _ ?_
  · rintro s1 ⟨σ1, H1, K, t1, n1, w1⟩
    obtain ⟨q1, q2⟩ := stop σ1 H1 w1
    refine wpAny_mono (T.done (genCx X (X.A.in1.in1.over (.compLoop (.GeneratorExp elt [⟨tg, iter, [], 0⟩] scope gpos) 0 (.ref it) .none (gEnv X scope s.heap.objs.size code)) []) scope s H code N' fp) rfl rfl rfl rfl n₀ _ s1 σ1 H1 _ K (stat n1) t1 q1) (fun r s2 h2 => ?_) fun _ _ e => e
    exact ⟨h2.1, σ1, H1, h2.2, q2⟩
  · rintro i s1 hi ⟨σ1, H1, K, t1, n1, w1⟩
    obtain ⟨q1, q2⟩ := turn i σ1 H1 hi w1
    refine wpAny_mono (T.item (genCx X (X.A.in1.in1.over (.compLoop (.GeneratorExp elt [⟨tg, iter, [], 0⟩] scope gpos) 0 (.ref it) .none (gEnv X scope s.heap.objs.size code)) []) scope s H code N' fp) rfl rfl rfl rfl i _ s1 σ1 H1 _ K (stat n1) t1 q1) (fun r s2 h2 => ?_) fun _ _ e => e
    obtain ⟨u, hu, h2⟩ := h2
    refine ⟨u, hu, wpAny_mono h2 (fun _ s3 h3 => ?_) fun _ _ e => e⟩
    obtain ⟨v, H3, K3, r3, y3, t3, n3⟩ := h3
    have K3' := K3.pinned (stat n3) (T.obj _ _ t3)
    refine wpAny_mono (hpg.run _ s3 σ1 H3 v u _ K3' r3 (q2 v H3 y3)) (fun _ s4 h4 => ?_) fun _ _ e => e
    obtain ⟨σ4, H4, K4, q4⟩ := h4
    refine wpAny_mono (hpe.run _ s4 σ4 H4 _ K4 q4) (fun y s6 h6 => ?_) fun _ _ e => e
    obtain ⟨v6, H6, K6, r6, b, e6, q6⟩ := h6
    subst e6
    obtain rfl : y = .bool b := r6
    refine ⟨σ4, H6, b, rfl, K6.unpinned, T.keep _ _ _ t3 fun b hb o e => (K6.pin (b, o) (List.mem_append_right _ (List.mem_append_right _ (mem_pinsAt hb e)))).1, fun b hb => ?_, q6⟩
    obtain ⟨o, e, d⟩ := T.obj _ _ t3 b hb
    exact (K6.pin (b, o) (List.mem_append_right _ (List.mem_append_right _ (mem_pinsAt hb e)))).2.1
  · rintro s1 ⟨σ1, H1, K, t1, n1, w1⟩ Q' E' hq
    exact T.self _ 0 s1 Q' E' t1 hq
  · rintro n s₀ s1 ⟨σ1, H1, K, q⟩
    exact .inl ⟨.inr rfl, K.bare, fun G h' hG hk => ⟨.bl false, H1, back G h' hG hk K, rfl, q⟩⟩
  · rintro n s₀ i y s1 hi ⟨σ1, H1, b, rfl, K, t1, n1, q1, q2⟩ kap hk
    refine ⟨gen K, K.nolimit, K.bare, ?_⟩
    cases b with
    | true => exact .inl ⟨rfl, fun G hG => ⟨.bl true, H1, back G s1.heap hG (fun _ _ e => e) K, rfl, q1 rfl⟩⟩
    | false => exact .inr ⟨rfl, fun G hG => hk _ ⟨σ1, H1, regen G hG K, t1, n1, q2 rfl⟩⟩
  · refine ⟨σ', H, regen _ (allBare_setGen hb rfl) I5, T.keep _ _ _ st fun b hb o e => kp b o e, fun b hb => (f2 b hb).1, w0⟩
end
end Mz

set_option Elab.async false
set_option linter.all false
set_option maxRecDepth 100000
set_option maxHeartbeats 4000000
/-! any(elt for tg in iter): the expression -/
namespace Mz
open PySem PySem.Spec PyProof.Rows L2 GenW GxR
/-- J: what is walked; P: the def's table, it may have grown when the code object is made; W: the invariant by the turn -/
def tAnyG (P : Addr) (wipe : L2.St → L2.St) (wi : TI) (gt : TG) (te : TE) : TE := fun σ H Q => wi σ H fun J H1 => TabG H1 P ∧ ∀ H2, Tabbed P H1 H2 → ∃ (W : Nat → L2.St → Hp → Prop) (n₀ : Nat), W 0 (wipe σ) H2 ∧
  (∀ i σ1 H1, i < n₀ → W i σ1 H1 → J.go i H1 ∧ ∀ v H2, J.yld i H1 v H2 → gt v σ1 H2 fun σ2 H3 => te σ2 H3 fun r H4 => ∃ b, r = .bl b ∧ (b = true → Q (.bl true) H4) ∧ (b = false → W (i + 1) σ2 H4)) ∧
  ∀ σ1 H1, W n₀ σ1 H1 → J.stop n₀ H1 ∧ Q (.bl false) H1
section
variable {X : Cx}
theorem pe_anyG {c P : Addr} {elt iter tg : Expr} {scope : Scope} {x : Str} {p pos gpos : Pos} {k : Nat} {wi : TI} {gt : TG} {te : TE} (N' : List Str) (wipe : L2.St → L2.St)
    (hr : Room (k + 3) X.A) (hg : Gl X "any") (hm : X.mg "any" = none) (TB : TabB X.base X.mg c P) (hcode : X.env.code = .ref c) (L : GenF X.env.scope scope x) (hi : PI X tg iter wi)
    (hl : ∀ σ : L2.St, σ.length = X.N.length → (wipe σ).length = N'.length)
    (hσ : ∀ (σ : L2.St) (i : Nat) (y : Str) (v : V), N'[i]? = some y → (wipe σ)[i]? = some (some v) → (scope.names.lookup y = some .local → False) ∧ (scope.names.lookup y = some .free → ∃ j : Nat, X.N[j]? = some y ∧ σ[j]? = some (some v)))
    (hel : ∀ (A : Around) (s : Shared) (H : Hp) (code : Value) (fp : List Addr), Room k A → A.frames = some (gEnv X scope s.heap.objs.size code :: X.stack) → PG (genCx X A scope s H code N' fp) tg gt ∧ PE (genCx X A scope s H code N' fp) elt te)
    (hs : ∀ v, genFold iter X.env v = pure v)
    (he : starEach [.GeneratorExp elt [⟨tg, iter, [], 0⟩] scope gpos] X.env = (false, eval (.GeneratorExp elt [⟨tg, iter, [], 0⟩] scope gpos) X.env) :: starEach [] X.env := by rfl) :
    PE X (.Call (.Name "any" p) [.GeneratorExp elt [⟨tg, iter, [], 0⟩] scope gpos] [] pos) (tAnyG P wipe wi gt te) := by
  refine ⟨fun pins s σ H Q I h => ?_⟩
  refine wpAny_Call_Name_kw (ld_blt I hg hm boot_any ?_)
  refine PyProof.Rows.callWith_builtin1 ?_ he (by rfl)
  rw [he]
  show wpAny _ _ (spliced ((false, eval (.GeneratorExp elt [⟨tg, iter, [], 0⟩] scope gpos) X.env) :: backTo pos (starEach [] X.env))) _ _ s
  refine Calls.spliced_cons (wpAny_GeneratorExp_make L.co (closure_ok (L.has I.ok)) L.cell L.dot L.kind hr.depth (thn (hi.run pins s σ H _ I h) fun xv s1 h1 => thn h1 fun itv s2 h2 => ?_) hs)
  obtain ⟨it, fp, tn, J, H2, rfl, I2, T, st2, f2, ⟨ps, hP, ht⟩, hw⟩ := h2
  have hPs : s2.heap.get? P = some { cls := .none, data := .fields ps } := I2.hok P _ hP
  have hPlt : P < s2.heap.objs.size := Heap.lt_size hPs
  have cd : PySem.W.CodeHd s2.heap c P := TB.code.keeps fun b u e => I2.bk b u e
  have cont : ∀ (code : Value) (h3 : Heap) (tk : Nat) (ps' : Array Value), Heap.ExtBut P s2.heap h3 → s2.heap.objs.size ≤ h3.objs.size → h3.get? P = some { cls := .none, data := .fields ps' } → (∃ more, ps' = ps ++ more) → TriplesOk ps'.toList →
      wpAny (model X.prog X.w) X.A (builtinsFor X.env.globals X.env.builtins) (fun bi s₄ =>
        ∀ h', h'.Ns s₄.heap.objs.size (fun y => if y = ".0" then some (.ref it) else none) → Heap.SameBut s₄.heap.objs.size (s₄.heap.push { cls := .type "frame", data := .dict #[] }) h' →
          wpAny (model X.prog X.w) X.A (spliced (backTo pos (starEach [] X.env))) (fun vs s' => wpAny (model X.prog X.w) X.A (call (.builtin "any") (.ref h'.objs.size :: vs)) (EP X pins σ Q) X.xe s') X.xe { s₄ with
            gens := s₄.gens.push (.fresh (.compStart (.GeneratorExp elt [⟨tg, iter, [], 0⟩] scope gpos) 0 (.ref it) .none (genEnv scope (cloFrom X.env.cells scope.names []) s₄.heap.objs.size code bi X.env))),
            toks := s₄.toks + 1 + 1 + 1,
            heap := h'.push { cls := .type "generator", data := .fields #[.int s₄.gens.size 0, .str "<genexpr>" (s₄.toks + 1), .str (X.env.qual ++ "<genexpr>") (s₄.toks + 1 + 1)] } }) X.xe { s2 with heap := h3, toks := tk } := by
    intro code h3 tk ps' hx hsz hP3 hmore ht3
    obtain ⟨bm, ob, e1, e2, e3, e4, e5, e6, e7, e8⟩ := TB.bm
    have keep3 : ∀ b u, b ≠ P → s2.heap.get? b = some u → h3.get? b = some u := fun b u hb e => hx b u hb e
    refine wpAny_builtinsFor (m := X.mg) (by rw [I2.ok.glob]; exact (I2.mod.glob.keeps I2.bk).extBut hx TB.gP) e1 e2 (keep3 _ _ e4 (I2.bk _ _ e5)) e6 e7 e8 ?_
    intro h' hn' hs'
    obtain ⟨more, em⟩ := hmore
    have J3 := inv_tab (more := more) (h' := h3) (g' := s2.gens) (d' := s2.drawn) (t' := tk) I2 hP keep3 (by rw [← em]; exact hP3) I2.bare
    have nP : ∀ b ∈ fp, b ≠ P := fun b hb z => by
      have q := (f2 b hb).1
      rw [z, hP] at q
      cases q
    have hsz' : h'.objs.size = h3.objs.size + 1 := by rw [hs'.1, Heap.size_push]
    have keep' : ∀ b o, h3.get? b = some o → h'.get? b = some o := fun b o e => hs'.extBut b o (Nat.ne_of_lt (Heap.lt_size e)) (Heap.get?_push_of_some _ e)
    obtain ⟨W, n₀, w0, turn, stop⟩ := hw (upd H2 P (.tbl (ps ++ more))) ⟨⟨ps ++ more, upd_same, by rw [← em]; exact ht3⟩, fun b hb => upd_ne hb⟩
    refine Calls.spliced_nil ?_
    refine any_run (s := { s2 with heap := h3, toks := tk }) (N' := N') (σ' := wipe σ) (itv := .ref it) (g := s2.gens.size) hr J3 L T (T.keep _ _ _ st2 fun b hb o e => keep3 b o (nP b hb) e) (fun b hb => ⟨by rw [upd_ne (nP b hb)]; exact (f2 b hb).1, (f2 b hb).2⟩)
      (hl σ I.len) (hσ σ) (hn'.push _) (fun b o e => Heap.get?_push_of_some _ (keep' b o e)) rfl (AllBare.push I2.bare rfl) (by show h3.objs.size < h'.objs.size; omega) ⟨_, _, _, Heap.get?_push_size _ rfl, rfl, rfl, rfl⟩ (Array.getElem?_push_size ..)
      (fun A hA hf => hel A _ _ code fp hA hf) w0 turn stop
  refine ⟨I2.nolimit, ?_⟩
  cases hf : codeAmong gpos ps.toList with
  | none =>
    refine wpAny_genexprCodeX hcode (cd.code hPs ht) (cd.tab hPs) hf fun c' h' tk hx hge hlt hco' _ htab' _ => ?_
    obtain ⟨o1, vs, f1, tf, fl, tg', inF, tx, tt, op, _, _, _, _, _, _, _, _, _, htr, _⟩ := hco'
    exact cont _ h' tk _ hx (Nat.le_trans hge (Nat.le_of_lt hlt)) htab'.2 ⟨_, rfl⟩ htr
  | some cv =>
    refine wpAny_genexprCode_hit hcode (cd.code hPs ht) hf ?_
    exact cont cv s2.heap s2.toks ps (Heap.ExtBut.refl _ _) (Nat.le_refl _) hPs ⟨#[], by simp⟩ ht
end
end Mz

set_option Elab.async false
set_option linter.all false
set_option maxRecDepth 100000
set_option maxHeartbeats 4000000
/-! any(elt for tg in iter), the element anything -/
namespace Mz
open PySem PySem.Spec PyProof.Rows L2 GenW GxR
section
variable {X : Cx} {pins : List (Addr × Obj)} {σ : L2.St} {H : Hp} {s s5 : Shared}
theorem all_run {elt iter tg : Expr} {scope : Scope} {x : Str} {gpos : Pos} {code itv : Value} {N' : List Str} {fp : List Addr} {σ' : L2.St} {a it : Addr} {g k n₀ : Nat} {tn : Nat → Heap → Prop} {J : It} {gt : TG} {te : TE} {W : Nat → L2.St → Hp → Prop} {Q : VK} {E : Value → Shared → Prop}
    (hr : Room (k + 3) X.A) (I : Inv X pins σ H s) (L : GenF X.env.scope scope x) (T : Turn X.prog X.w X.K tg J fp it tn) (st : tn 0 s.heap) (f2 : ∀ b ∈ fp, FpOk X pins H b)
    (hl : σ'.length = N'.length) (hσ : ∀ (i : Nat) (y : Str) (v : V), N'[i]? = some y → σ'[i]? = some (some v) → (scope.names.lookup y = some .local → False) ∧ (scope.names.lookup y = some .free → ∃ j : Nat, X.N[j]? = some y ∧ σ[j]? = some (some v)))
    (hns : s5.heap.Ns s.heap.objs.size fun y => if y = ".0" then some itv else none) (kp : ∀ b o, s.heap.get? b = some o → s5.heap.get? b = some o) (hos : s5.os = s.os) (hb : AllBare s5.gens)
    (ha : s.heap.objs.size < a) (hg : s5.heap.IsGen a g) (hgs : s5.gens[g]? = some (.fresh (.compStart (.GeneratorExp elt [⟨tg, iter, [], 0⟩] scope gpos) 0 (.ref it) .none (gEnv X scope s.heap.objs.size code))))
    (hel : ∀ A : Around, Room k A → A.frames = some (gEnv X scope s.heap.objs.size code :: X.stack) → PG (genCx X A scope s H code N' fp) tg gt ∧ PE (genCx X A scope s H code N' fp) elt te)
    (w0 : W 0 σ' H) (turn : ∀ i σ1 H1, i < n₀ → W i σ1 H1 → J.go i H1 ∧ ∀ v H2, J.yld i H1 v H2 → gt v σ1 H2 fun σ2 H3 => te σ2 H3 fun r H4 => ∃ b, r = .bl b ∧ (b = false → Q (.bl false) H4) ∧ (b = true → W (i + 1) σ2 H4))
    (stop : ∀ σ1 H1, W n₀ σ1 H1 → J.stop n₀ H1 ∧ Q (.bl true) H1) :
    wpAny (model X.prog X.w) X.A (call (.builtin "all") [.ref a]) (EP X pins σ Q) E s5 := by
  obtain ⟨go, nm, qn, ho, hc, hdd, hsl⟩ := id hg
  have hrl : Room k (X.A.in1.in1.over (.compLoop (.GeneratorExp elt [⟨tg, iter, [], 0⟩] scope gpos) 0 (.ref it) .none (gEnv X scope s.heap.objs.size code)) []) :=
    ⟨hr.hd, by have := hr.dp; show X.A.depth + 1 + 3 * k + 5 < _; omega, by have := hr.un; show X.A.units + 1 + 1 + 3 + 16 * k + 200 < _; omega⟩
  have hfl : (X.A.in1.in1.over (.compLoop (.GeneratorExp elt [⟨tg, iter, [], 0⟩] scope gpos) 0 (.ref it) .none (gEnv X scope s.heap.objs.size code)) []).frames = some (gEnv X scope s.heap.objs.size code :: X.stack) := by
    show pushEnvs [gEnv X scope s.heap.objs.size code] X.A.frames = _
    rw [I.ok.frames]
    rfl
  obtain ⟨hpg, hpe⟩ := hel _ hrl hfl
  have hlt : ∀ b ∈ fp, b < s.heap.objs.size := fun b hb => by
    obtain ⟨o, e, _⟩ := T.obj _ _ st b hb
    exact Heap.lt_size e
  have I0 := gen_start (N' := N') (fp := fp) (σ' := σ') (it := itv) (code := code) (fun b hb => ⟨f2 b hb, hlt b hb⟩) I L hrl.hd hfl hl hσ hns kp hos hb
  have I5 := I0.pins_of (pins' := [(a, go)]) fun p hp => by
    rw [List.mem_singleton.mp hp]
    refine ⟨ho, I.hok.fresh (Nat.le_of_lt ha), Nat.ne_of_gt ha, fun hm => ?_, fun v q => by rw [show go.data = _ from hdd] at q; cases q⟩
    rcases List.mem_cons.mp (I.stkSub a hm) with q | q
    · have h1 := I.lt
      rw [← q] at h1
      exact Nat.lt_irrefl _ (Nat.lt_trans h1 ha)
    · exact I.nofs (Nat.le_of_lt ha) q
  have stat : ∀ {H1 : Hp}, (∀ b ∈ fp, H1 b = none) → ∀ b ∈ fp, FpOk (genCx X (X.A.in1.in1.over (.compLoop (.GeneratorExp elt [⟨tg, iter, [], 0⟩] scope gpos) 0 (.ref it) .none (gEnv X scope s.heap.objs.size code)) []) scope s H code N' fp) [(a, go)] H1 b :=
    fun {H1} hn b hb => ⟨hn b hb, (I0.ok.exf b hb).1, I0.ok.exfs b hb, .inl hb, (I0.ok.exf b hb).2, fun p hp => by
      have hp : p ∈ ([] : List (Addr × Obj)) ++ [(a, go)] := hp
      rw [List.nil_append, List.mem_singleton] at hp
      rw [hp]
      exact Nat.ne_of_gt (Nat.lt_trans (hlt b hb) ha)⟩
  have regen : ∀ {σ1 : L2.St} {H1 : Hp} {s' : Shared} (G : Array GenState), AllBare G → Inv (genCx X (X.A.in1.in1.over (.compLoop (.GeneratorExp elt [⟨tg, iter, [], 0⟩] scope gpos) 0 (.ref it) .none (gEnv X scope s.heap.objs.size code)) []) scope s H code N' fp) [(a, go)] σ1 H1 s' →
      Inv (genCx X (X.A.in1.in1.over (.compLoop (.GeneratorExp elt [⟨tg, iter, [], 0⟩] scope gpos) 0 (.ref it) .none (gEnv X scope s.heap.objs.size code)) []) scope s H code N' fp) [(a, go)] σ1 H1 { s' with gens := G } :=
    fun {σ1 H1 s'} G hG K => K.call' (ch := []) (s' := { s' with gens := G }) rfl Un.refl K.hok hG fun b z => absurd z (by simp)
  have back : ∀ {σ1 : L2.St} {H1 : Hp} {s' : Shared} (G : Array GenState) (h' : Heap), AllBare G → (∀ b o, s'.heap.get? b = some o → h'.get? b = some o) → Inv (genCx X (X.A.in1.in1.over (.compLoop (.GeneratorExp elt [⟨tg, iter, [], 0⟩] scope gpos) 0 (.ref it) .none (gEnv X scope s.heap.objs.size code)) []) scope s H code N' fp) [(a, go)] σ1 H1 s' →
      Inv X pins σ H1 { s' with gens := G, heap := h' } := fun {σ1 H1 s'} G h' hG hk K =>
    I.call' (ch := fp) (s' := { s' with gens := G, heap := h' }) K.os (Un.trans K.base (Un.kept hk)) (K.hok.kept hk) hG fun b hb => ⟨(f2 b hb).2.2.2.1, (f2 b hb).2.1, (f2 b hb).2.2.2.2.1, (f2 b hb).2.2.2.2.2⟩
  have gen : ∀ {σ1 : L2.St} {H1 : Hp} {s' : Shared}, Inv (genCx X (X.A.in1.in1.over (.compLoop (.GeneratorExp elt [⟨tg, iter, [], 0⟩] scope gpos) 0 (.ref it) .none (gEnv X scope s.heap.objs.size code)) []) scope s H code N' fp) [(a, go)] σ1 H1 s' → s'.heap.IsGen a g :=
    fun {σ1 H1 s'} K => ⟨go, nm, qn, (K.pin (a, go) (List.mem_append_right _ (List.mem_singleton.mpr rfl))).1, hc, hdd, hsl⟩
  refine call_all_gen (m := n₀) (Qt := fun b s' => EP X pins σ Q (.bool b) s') hr.hd hr.depth hg I0.nolimit hgs ⟨rfl, ?_⟩ (fun b s' h => h)
  refine seg_genStartI (n₀ := n₀)
    (fun i s' => ∃ σ1 H1, Inv (genCx X (X.A.in1.in1.over (.compLoop (.GeneratorExp elt [⟨tg, iter, [], 0⟩] scope gpos) 0 (.ref it) .none (gEnv X scope s.heap.objs.size code)) []) scope s H code N' fp) [(a, go)] σ1 H1 s' ∧ tn i s'.heap ∧ (∀ b ∈ fp, H1 b = none) ∧ W i σ1 H1)
    (fun i y s' => ∃ σ1 H1 b, y = .bool b ∧ Inv (genCx X (X.A.in1.in1.over (.compLoop (.GeneratorExp elt [⟨tg, iter, [], 0⟩] scope gpos) 0 (.ref it) .none (gEnv X scope s.heap.objs.size code)) []) scope s H code N' fp) [(a, go)] σ1 H1 s' ∧ tn (i + 1) s'.heap ∧ (∀ b ∈ fp, H1 b = none) ∧
      (b = false → Q (.bl false) H1) ∧ (b = true → W (i + 1) σ1 H1))
    (fun s' => ∃ σ1 H1, Inv (genCx X (X.A.in1.in1.over (.compLoop (.GeneratorExp elt [⟨tg, iter, [], 0⟩] scope gpos) 0 (.ref it) .none (gEnv X scope s.heap.objs.size code)) []) scope s H code N' fp) [(a, go)] σ1 H1 s' ∧ Q (.bl true) H1)
    L.co ?_ ?_ ?_ ?_ ?_ _ _ ?_
  · rintro s1 ⟨σ1, H1, K, t1, n1, w1⟩
    obtain ⟨q1, q2⟩ := stop σ1 H1 w1
    refine wpAny_mono (T.done (genCx X (X.A.in1.in1.over (.compLoop (.GeneratorExp elt [⟨tg, iter, [], 0⟩] scope gpos) 0 (.ref it) .none (gEnv X scope s.heap.objs.size code)) []) scope s H code N' fp) rfl rfl rfl rfl n₀ _ s1 σ1 H1 _ K (stat n1) t1 q1) (fun r s2 h2 => ?_) fun _ _ e => e
    exact ⟨h2.1, σ1, H1, h2.2, q2⟩
  · rintro i s1 hi ⟨σ1, H1, K, t1, n1, w1⟩
    obtain ⟨q1, q2⟩ := turn i σ1 H1 hi w1
    refine wpAny_mono (T.item (genCx X (X.A.in1.in1.over (.compLoop (.GeneratorExp elt [⟨tg, iter, [], 0⟩] scope gpos) 0 (.ref it) .none (gEnv X scope s.heap.objs.size code)) []) scope s H code N' fp) rfl rfl rfl rfl i _ s1 σ1 H1 _ K (stat n1) t1 q1) (fun r s2 h2 => ?_) fun _ _ e => e
    obtain ⟨u, hu, h2⟩ := h2
    refine ⟨u, hu, wpAny_mono h2 (fun _ s3 h3 => ?_) fun _ _ e => e⟩
    obtain ⟨v, H3, K3, r3, y3, t3, n3⟩ := h3
    have K3' := K3.pinned (stat n3) (T.obj _ _ t3)
    refine wpAny_mono (hpg.run _ s3 σ1 H3 v u _ K3' r3 (q2 v H3 y3)) (fun _ s4 h4 => ?_) fun _ _ e => e
    obtain ⟨σ4, H4, K4, q4⟩ := h4
    refine wpAny_mono (hpe.run _ s4 σ4 H4 _ K4 q4) (fun y s6 h6 => ?_) fun _ _ e => e
    obtain ⟨v6, H6, K6, r6, b, e6, q6⟩ := h6
    subst e6
    obtain rfl : y = .bool b := r6
    refine ⟨σ4, H6, b, rfl, K6.unpinned, T.keep _ _ _ t3 fun b hb o e => (K6.pin (b, o) (List.mem_append_right _ (List.mem_append_right _ (mem_pinsAt hb e)))).1, fun b hb => ?_, q6⟩
    obtain ⟨o, e, d⟩ := T.obj _ _ t3 b hb
    exact (K6.pin (b, o) (List.mem_append_right _ (List.mem_append_right _ (mem_pinsAt hb e)))).2.1
  · rintro s1 ⟨σ1, H1, K, t1, n1, w1⟩ Q' E' hq
    exact T.self _ 0 s1 Q' E' t1 hq
  · rintro n s₀ s1 ⟨σ1, H1, K, q⟩
    exact .inl ⟨.inr rfl, K.bare, fun G h' hG hk => ⟨.bl true, H1, back G h' hG hk K, rfl, q⟩⟩
  · rintro n s₀ i y s1 hi ⟨σ1, H1, b, rfl, K, t1, n1, q1, q2⟩ kap hk
    refine ⟨gen K, K.nolimit, K.bare, ?_⟩
    cases b with
    | false => exact .inl ⟨rfl, fun G hG => ⟨.bl false, H1, back G s1.heap hG (fun _ _ e => e) K, rfl, q1 rfl⟩⟩
    | true => exact .inr ⟨rfl, fun G hG => hk _ ⟨σ1, H1, regen G hG K, t1, n1, q2 rfl⟩⟩
  · refine ⟨σ', H, regen _ (allBare_setGen hb rfl) I5, T.keep _ _ _ st fun b hb o e => kp b o e, fun b hb => (f2 b hb).1, w0⟩
end
end Mz

set_option Elab.async false
set_option linter.all false
set_option maxRecDepth 100000
set_option maxHeartbeats 4000000
/-! all(elt for tg in iter): the expression -/
namespace Mz
open PySem PySem.Spec PyProof.Rows L2 GenW GxR
/-- J: what is walked; P: the def's table, it may have grown when the code object is made; W: the invariant by the turn -/
def tAllG (P : Addr) (wipe : L2.St → L2.St) (wi : TI) (gt : TG) (te : TE) : TE := fun σ H Q => wi σ H fun J H1 => TabG H1 P ∧ ∀ H2, Tabbed P H1 H2 → ∃ (W : Nat → L2.St → Hp → Prop) (n₀ : Nat), W 0 (wipe σ) H2 ∧
  (∀ i σ1 H1, i < n₀ → W i σ1 H1 → J.go i H1 ∧ ∀ v H2, J.yld i H1 v H2 → gt v σ1 H2 fun σ2 H3 => te σ2 H3 fun r H4 => ∃ b, r = .bl b ∧ (b = false → Q (.bl false) H4) ∧ (b = true → W (i + 1) σ2 H4)) ∧
  ∀ σ1 H1, W n₀ σ1 H1 → J.stop n₀ H1 ∧ Q (.bl true) H1
section
variable {X : Cx}
theorem pe_allG {c P : Addr} {elt iter tg : Expr} {scope : Scope} {x : Str} {p pos gpos : Pos} {k : Nat} {wi : TI} {gt : TG} {te : TE} (N' : List Str) (wipe : L2.St → L2.St)
    (hr : Room (k + 3) X.A) (hg : Gl X "all") (hm : X.mg "all" = none) (hbo : bootBuiltins "all" = some (.builtin "all")) (TB : TabB X.base X.mg c P) (hcode : X.env.code = .ref c) (L : GenF X.env.scope scope x) (hi : PI X tg iter wi)
    (hl : ∀ σ : L2.St, σ.length = X.N.length → (wipe σ).length = N'.length)
    (hσ : ∀ (σ : L2.St) (i : Nat) (y : Str) (v : V), N'[i]? = some y → (wipe σ)[i]? = some (some v) → (scope.names.lookup y = some .local → False) ∧ (scope.names.lookup y = some .free → ∃ j : Nat, X.N[j]? = some y ∧ σ[j]? = some (some v)))
    (hel : ∀ (A : Around) (s : Shared) (H : Hp) (code : Value) (fp : List Addr), Room k A → A.frames = some (gEnv X scope s.heap.objs.size code :: X.stack) → PG (genCx X A scope s H code N' fp) tg gt ∧ PE (genCx X A scope s H code N' fp) elt te)
    (hs : ∀ v, genFold iter X.env v = pure v)
    (he : starEach [.GeneratorExp elt [⟨tg, iter, [], 0⟩] scope gpos] X.env = (false, eval (.GeneratorExp elt [⟨tg, iter, [], 0⟩] scope gpos) X.env) :: starEach [] X.env := by rfl) :
    PE X (.Call (.Name "all" p) [.GeneratorExp elt [⟨tg, iter, [], 0⟩] scope gpos] [] pos) (tAllG P wipe wi gt te) := by
  refine ⟨fun pins s σ H Q I h => ?_⟩
  refine wpAny_Call_Name_kw (ld_blt I hg hm hbo ?_)
  refine PyProof.Rows.callWith_builtin1 ?_ he (by rfl)
  rw [he]
  show wpAny _ _ (spliced ((false, eval (.GeneratorExp elt [⟨tg, iter, [], 0⟩] scope gpos) X.env) :: backTo pos (starEach [] X.env))) _ _ s
  refine Calls.spliced_cons (wpAny_GeneratorExp_make L.co (closure_ok (L.has I.ok)) L.cell L.dot L.kind hr.depth (thn (hi.run pins s σ H _ I h) fun xv s1 h1 => thn h1 fun itv s2 h2 => ?_) hs)
  obtain ⟨it, fp, tn, J, H2, rfl, I2, T, st2, f2, ⟨ps, hP, ht⟩, hw⟩ := h2
  have hPs : s2.heap.get? P = some { cls := .none, data := .fields ps } := I2.hok P _ hP
  have hPlt : P < s2.heap.objs.size := Heap.lt_size hPs
  have cd : PySem.W.CodeHd s2.heap c P := TB.code.keeps fun b u e => I2.bk b u e
  have cont : ∀ (code : Value) (h3 : Heap) (tk : Nat) (ps' : Array Value), Heap.ExtBut P s2.heap h3 → s2.heap.objs.size ≤ h3.objs.size → h3.get? P = some { cls := .none, data := .fields ps' } → (∃ more, ps' = ps ++ more) → TriplesOk ps'.toList →
      wpAny (model X.prog X.w) X.A (builtinsFor X.env.globals X.env.builtins) (fun bi s₄ =>
        ∀ h', h'.Ns s₄.heap.objs.size (fun y => if y = ".0" then some (.ref it) else none) → Heap.SameBut s₄.heap.objs.size (s₄.heap.push { cls := .type "frame", data := .dict #[] }) h' →
          wpAny (model X.prog X.w) X.A (spliced (backTo pos (starEach [] X.env))) (fun vs s' => wpAny (model X.prog X.w) X.A (call (.builtin "all") (.ref h'.objs.size :: vs)) (EP X pins σ Q) X.xe s') X.xe { s₄ with
            gens := s₄.gens.push (.fresh (.compStart (.GeneratorExp elt [⟨tg, iter, [], 0⟩] scope gpos) 0 (.ref it) .none (genEnv scope (cloFrom X.env.cells scope.names []) s₄.heap.objs.size code bi X.env))),
            toks := s₄.toks + 1 + 1 + 1,
            heap := h'.push { cls := .type "generator", data := .fields #[.int s₄.gens.size 0, .str "<genexpr>" (s₄.toks + 1), .str (X.env.qual ++ "<genexpr>") (s₄.toks + 1 + 1)] } }) X.xe { s2 with heap := h3, toks := tk } := by
    intro code h3 tk ps' hx hsz hP3 hmore ht3
    obtain ⟨bm, ob, e1, e2, e3, e4, e5, e6, e7, e8⟩ := TB.bm
    have keep3 : ∀ b u, b ≠ P → s2.heap.get? b = some u → h3.get? b = some u := fun b u hb e => hx b u hb e
    refine wpAny_builtinsFor (m := X.mg) (by rw [I2.ok.glob]; exact (I2.mod.glob.keeps I2.bk).extBut hx TB.gP) e1 e2 (keep3 _ _ e4 (I2.bk _ _ e5)) e6 e7 e8 ?_
    intro h' hn' hs'
    obtain ⟨more, em⟩ := hmore
    have J3 := inv_tab (more := more) (h' := h3) (g' := s2.gens) (d' := s2.drawn) (t' := tk) I2 hP keep3 (by rw [← em]; exact hP3) I2.bare
    have nP : ∀ b ∈ fp, b ≠ P := fun b hb z => by
      have q := (f2 b hb).1
      rw [z, hP] at q
      cases q
    have hsz' : h'.objs.size = h3.objs.size + 1 := by rw [hs'.1, Heap.size_push]
    have keep' : ∀ b o, h3.get? b = some o → h'.get? b = some o := fun b o e => hs'.extBut b o (Nat.ne_of_lt (Heap.lt_size e)) (Heap.get?_push_of_some _ e)
    obtain ⟨W, n₀, w0, turn, stop⟩ := hw (upd H2 P (.tbl (ps ++ more))) ⟨⟨ps ++ more, upd_same, by rw [← em]; exact ht3⟩, fun b hb => upd_ne hb⟩
    refine Calls.spliced_nil ?_
    refine all_run (s := { s2 with heap := h3, toks := tk }) (N' := N') (σ' := wipe σ) (itv := .ref it) (g := s2.gens.size) hr J3 L T (T.keep _ _ _ st2 fun b hb o e => keep3 b o (nP b hb) e) (fun b hb => ⟨by rw [upd_ne (nP b hb)]; exact (f2 b hb).1, (f2 b hb).2⟩)
      (hl σ I.len) (hσ σ) (hn'.push _) (fun b o e => Heap.get?_push_of_some _ (keep' b o e)) rfl (AllBare.push I2.bare rfl) (by show h3.objs.size < h'.objs.size; omega) ⟨_, _, _, Heap.get?_push_size _ rfl, rfl, rfl, rfl⟩ (Array.getElem?_push_size ..)
      (fun A hA hf => hel A _ _ code fp hA hf) w0 turn stop
  refine ⟨I2.nolimit, ?_⟩
  cases hf : codeAmong gpos ps.toList with
  | none =>
    refine wpAny_genexprCodeX hcode (cd.code hPs ht) (cd.tab hPs) hf fun c' h' tk hx hge hlt hco' _ htab' _ => ?_
    obtain ⟨o1, vs, f1, tf, fl, tg', inF, tx, tt, op, _, _, _, _, _, _, _, _, _, htr, _⟩ := hco'
    exact cont _ h' tk _ hx (Nat.le_trans hge (Nat.le_of_lt hlt)) htab'.2 ⟨_, rfl⟩ htr
  | some cv =>
    refine wpAny_genexprCode_hit hcode (cd.code hPs ht) hf ?_
    exact cont cv s2.heap s2.toks ps (Heap.ExtBut.refl _ _) (Nat.le_refl _) hPs ⟨#[], by simp⟩ ht
end
end Mz

set_option Elab.async false
set_option linter.all false
set_option maxRecDepth 100000
set_option maxHeartbeats 4000000
namespace K42
open PySem PySem.Spec PyProof.Rows L2 Mz
theorem okNC {P : Program} {w : World} {K : PySem.W.Frag} {mg : Str → Option Value} {base : Heap} {x qual : Str} {st : Stmt} {f : Addr} {fd : FuncData} {N ps : List Str} {k : Nat} {sp : Sp} (F : Fun K x qual st f fd) (S : FnScope N ps (defScope st)) (len : ∀ vs H Q E, sp vs H Q E → vs.length = ps.length)
    (hbody : ∀ (A : Around) (outer : List Env) (s : Shared) (H : Hp) (vs : List V) (Q : VK) (E : XK), Room k (A.deeper (envOfC qual (defScope st) s.heap.objs.size f fd.code)) → sp vs H Q E →
      ∃ t, PSs (cxOf (L2N.CX P w) P w K mg base N qual (defScope st) f fd.code A outer s H E) (defBody st) t ∧ t { nx := fun _ H' => Q .non H', rt := Q } (start N vs) H) : FnOk P w K mg base (L2N.CX P w) (k + 1) f fd ps sp := by
  obtain ⟨oc, od, kV, doc, pm, an, cdv, ct, osl, rfl, lk, hcd⟩ := F.ex
  exact fn_of lk hcd S len fun A outer s H vs Q E hr hsp => hbody A outer s H vs Q E hr hsp
/-- all kept but two tables -/
structure K2 (P1 P2 : Addr) (H H' : Hp) : Prop where
  t1 : GxR.TabG H' P1
  t2 : GxR.TabG H' P2
  keep : ∀ b o, b ≠ P1 → b ≠ P2 → H b = some o → H' b = some o
theorem K2.lst {P1 P2 : Addr} {H H' : Hp} (k : K2 P1 P2 H H') (t1 : GxR.TabG H P1) (t2 : GxR.TabG H P2) {a : Addr} {xs : List V} (h : H a = some (.lst xs)) : H' a = some (.lst xs) :=
  k.keep _ _ (tab_ne t1 h (fun ps z => by cases z)) (tab_ne t2 h (fun ps z => by cases z)) h
theorem K2.ma {P1 P2 : Addr} {H H' : Hp} (k : K2 P1 P2 H H') (h12 : P1 ≠ P2) (t1 : GxR.TabG H P1) (t2 : GxR.TabG H P2) {m : Addr} {M : Mach} (h : MA H m M) : MA H' m M := by
  have e : ∀ b, b ≠ P1 → (fun b => if b = P1 then H' P1 else H b) b = H b := fun b hb => if_neg hb
  have e1 : (fun b => if b = P1 then H' P1 else H b) P1 = H' P1 := if_pos rfl
  have k1 : Kp P1 H (fun b => if b = P1 then H' P1 else H b) := ⟨by obtain ⟨ps, q, r⟩ := k.t1; exact ⟨ps, e1.trans q, r⟩, fun b o hb q => (e b hb).trans q⟩
  have k2 : Kp P2 (fun b => if b = P1 then H' P1 else H b) H' := ⟨k.t2, fun b o hb q => by
    by_cases z : b = P1
    · rw [z] at q ⊢
      exact e1.symm.trans q
    · exact k.keep b o z hb ((e b z).symm.trans q)⟩
  have t2' : GxR.TabG (fun b => if b = P1 then H' P1 else H b) P2 := by obtain ⟨ps, q, r⟩ := t2; exact ⟨ps, (e P2 (Ne.symm h12)).trans q, r⟩
  exact Kp.ma t2' k2 (Kp.ma t1 k1 h)
theorem K2.kp {P1 P2 : Addr} {H H' H2 : Hp} (k : K2 P1 P2 H H') (h12 : P1 ≠ P2) (kp : Kp P1 H' H2) : K2 P1 P2 H H2 :=
  ⟨kp.tab, by obtain ⟨ps, q, r⟩ := k.t2; exact ⟨ps, kp.keep _ _ (Ne.symm h12) q, r⟩, fun b o h1 h2 q => kp.keep b o h1 (k.keep b o h1 h2 q)⟩
theorem K2.tb {P1 P2 : Addr} {H H' H2 : Hp} (k : K2 P1 P2 H H') (h12 : P1 ≠ P2) (tb : GxR.Tabbed P2 H' H2) : K2 P1 P2 H H2 :=
  ⟨by obtain ⟨ps, q, r⟩ := k.t1; exact ⟨ps, (tb.2 _ h12).trans q, r⟩, tb.1, fun b o h1 h2 q => (tb.2 b h2).trans (k.keep b o h1 h2 q)⟩
theorem K2.new {P1 P2 : Addr} {H H' : Hp} (k : K2 P1 P2 H H') (_h12 : P1 ≠ P2) (_t1 : GxR.TabG H P1) (_t2 : GxR.TabG H P2) {p : Addr} {o : HO} (hp : H' p = none) : K2 P1 P2 H (upd H' p o) := by
  have ne : ∀ {b : Addr} {u : HO}, H' b = some u → b ≠ p := fun q z => by
    rw [z, hp] at q
    cases q
  exact ⟨by obtain ⟨ps, q, r⟩ := k.t1; exact ⟨ps, (upd_ne (ne q)).trans q, r⟩, by obtain ⟨ps, q, r⟩ := k.t2; exact ⟨ps, (upd_ne (ne q)).trans q, r⟩, fun b u h1 h2 q => (upd_ne (ne (k.keep b u h1 h2 q))).trans (k.keep b u h1 h2 q)⟩
theorem K2.same {P1 P2 : Addr} {H H' H2 : Hp} (k : K2 P1 P2 H H') (s : Same H' H2) : K2 P1 P2 H H2 :=
  ⟨by obtain ⟨ps, q, r⟩ := k.t1; exact ⟨ps, s _ _ q, r⟩, by obtain ⟨ps, q, r⟩ := k.t2; exact ⟨ps, s _ _ q, r⟩, fun b u h1 h2 q => s _ _ (k.keep b u h1 h2 q)⟩
theorem K2.trans {P1 P2 : Addr} {H H' H2 : Hp} (k : K2 P1 P2 H H') (s : K2 P1 P2 H' H2) : K2 P1 P2 H H2 := ⟨s.t1, s.t2, fun b u h1 h2 q => s.keep b u h1 h2 (k.keep b u h1 h2 q)⟩
theorem K2.refl {P1 P2 : Addr} {H : Hp} (t1 : GxR.TabG H P1) (t2 : GxR.TabG H P2) : K2 P1 P2 H H := ⟨t1, t2, fun _ _ _ _ q => q⟩
theorem K2.tup {P1 P2 : Addr} {H H' : Hp} (k : K2 P1 P2 H H') (t1 : GxR.TabG H P1) (t2 : GxR.TabG H P2) {a : Addr} {xs : List V} (h : H a = some (.tup xs)) : H' a = some (.tup xs) :=
  k.keep _ _ (tab_ne t1 h (fun ps z => by cases z)) (tab_ne t2 h (fun ps z => by cases z)) h
theorem RowAt.k2 {P1 P2 : Addr} {H H' : Hp} {t : Addr} {x : List Int × Int} (k : K2 P1 P2 H H') (t1 : GxR.TabG H P1) (t2 : GxR.TabG H P2) (h : RowAt H t x) : RowAt H' t x := let ⟨a, h1, h2⟩ := h; ⟨a, k.tup t1 t2 h1, k.lst t1 t2 h2⟩
theorem LogAt.k2 {P1 P2 : Addr} {H H' : Hp} {l : Addr} {log : Log} (h : LogAt H l log) (k : K2 P1 P2 H H') (t1 : GxR.TabG H P1) (t2 : GxR.TabG H P2) : LogAt H' l log := let ⟨ts, h1, h2⟩ := h; ⟨ts, k.lst t1 t2 h1, Rel.imp h2 fun _ _ => RowAt.k2 k t1 t2⟩
/-- the names inside: all but two wiped slots are as outside -/
theorem wipe2Ok {N : List Str} {scope : Scope} {j k : Nat} (NN : List Str) (hN : N = NN) (hl : (NN.zipIdx.all fun p => p.2 == j || p.2 == k || !decide (scope.names.lookup p.1 = some NameKind.local)) = true) :
    ∀ (σ : L2.St) (i : Nat) (y : Str) (v : V), NN[i]? = some y → ((σ.set j none).set k none)[i]? = some (some v) → (scope.names.lookup y = some .local → False) ∧ (scope.names.lookup y = some .free → ∃ j : Nat, N[j]? = some y ∧ σ[j]? = some (some v)) := by
  intro σ i y v h1 h2
  have hik : i ≠ k := fun z => by
    subst z
    rw [List.getElem?_set] at h2
    simp only [if_true] at h2
    split at h2 <;> cases h2
  rw [List.getElem?_set_ne (Ne.symm hik)] at h2
  have hij : i ≠ j := fun z => by
    subst z
    rw [List.getElem?_set] at h2
    simp only [if_true] at h2
    split at h2 <;> cases h2
  rw [List.getElem?_set_ne (Ne.symm hij)] at h2
  refine ⟨?_, fun _ => ⟨i, by rw [hN]; exact h1, h2⟩⟩
  rw [List.all_eq_true] at hl
  have hm : (y, i) ∈ NN.zipIdx := by
    rw [List.mem_zipIdx_iff_getElem?]
    exact h1
  have := hl _ hm
  simp only [Bool.or_eq_true, beq_iff_eq, Bool.not_eq_true', decide_eq_false_iff_not] at this
  exact (this.resolve_left fun z => z.elim hij hik)
theorem wipeOk {N : List Str} {scope : Scope} {j : Nat} (y0 : Str) (NN : List Str) (hN : N = NN) (hj : NN[j]? = some y0) (hl : ∀ i y, NN[i]? = some y → i ≠ j → scope.names.lookup y ≠ some .local) (_hd : True) :
    ∀ (σ : L2.St) (i : Nat) (y : Str) (v : V), NN[i]? = some y → (σ.set j none)[i]? = some (some v) → (scope.names.lookup y = some .local → False) ∧ (scope.names.lookup y = some .free → ∃ j : Nat, N[j]? = some y ∧ σ[j]? = some (some v)) := by
  intro σ i y v h1 h2
  have hij : i ≠ j := fun z => by
    subst z
    rw [List.getElem?_set] at h2
    simp only [if_true] at h2
    split at h2 <;> cases h2
  rw [List.getElem?_set_ne (Ne.symm hij)] at h2
  exact ⟨hl i y h1 hij, fun _ => ⟨i, by rw [hN]; exact h1, h2⟩⟩
theorem lookAll {NN : List Str} {scope : Scope} {j : Nat} (h : (NN.zipIdx.all fun p => p.2 == j || !decide (scope.names.lookup p.1 = some NameKind.local)) = true) : ∀ i y, NN[i]? = some y → i ≠ j → scope.names.lookup y ≠ some .local := by
  intro i y hi hij
  rw [List.all_eq_true] at h
  have hm : (y, i) ∈ NN.zipIdx := by
    rw [List.mem_zipIdx_iff_getElem?]
    exact hi
  have := h _ hm
  simp only [Bool.or_eq_true, beq_iff_eq, Bool.not_eq_true', decide_eq_false_iff_not] at this
  exact this.resolve_left hij
def contraB (T U : Log) : Bool := T.any fun r => decide (V.int ((toldOf U r.1).getD r.2) ≠ V.int r.2)
def spContra (P2 : Addr) : Sp := fun vs H Q _ => ∃ (a b : Addr) (T U : Log), vs = [.ref a, .ref b] ∧ H a = some (.dT (kvsO T)) ∧ H b = some (.dT (kvsO U)) ∧ GxR.TabG H P2 ∧ ∀ H', Kp P2 H H' → Q (.bl (contraB T U)) H'
section
variable {P : Program} {w : World} {K : PySem.W.Frag} {mg : Str → Option Value} {base : Heap} {A : Ads} {c1 c2 c3 P1 P2 P3 : Addr}
theorem ok_contra (T : Txt K mg A) (TB2 : GxR.TabB base mg c2 P2) (hc2 : A.d_contradict.code = .ref c2) : FnOk P w K mg base CX0 5 A.a_contradict A.d_contradict ["endings", "others"] (spContra P2) := by
  refine okC T.F_contradict sc_contradict (fun vs H Q E h => ?_) (fun Ar outer s H vs Q E hr h => ?_)
  · obtain ⟨_, _, _, _, rfl, _⟩ := h
    rfl
  · refine ⟨_, (pss_one (ps_ret (pe_lock (pe_anyG (k := 1) (x := "word") ["endings", "others", "word", "output"] (fun σ => (σ.set 2 none).set 3 none) hr (by rfl) T.n_any TB2 hc2
        (by exact ⟨rfl, rfl, by decide +kernel, rfl, rfl, fun y hy e => by (simp only [List.mem_cons, List.not_mem_nil, or_false] at hy; rcases hy with rfl | rfl | rfl | rfl | rfl | rfl <;> first | (cases e; done) | exact .inl rfl | exact .inr rfl)⟩) (pi_itemsT (pv 0))
        (fun σ h => by rw [List.length_set, List.length_set]; exact h) (wipe2Ok _ rfl (by decide +kernel))
        (fun A' s' H' code fp hA hf => ⟨(show PG _ _ (gTup K 2 (gCons (gName 2) (gCons (gName 3) gNil))) from pg_tup (n := 2) rfl (pgs_cons (pg_name (i := 2) sc_contradict.nd rfl (Or.inl rfl) (Or.inr rfl)) (pgs_cons (pg_name (i := 3) sc_contradict.nd rfl (Or.inl rfl) (Or.inr rfl)) pgs_nil))),
          (pe_cmpR op_ne (pe_dget2 (hu_of hA) (pv 1) (pv 2) (pv 3) ⟨rfl, rfl, rfl, rfl⟩) (pv 3) (nomark _))⟩)
        (fun _ => rfl))))), ?_⟩
    obtain ⟨a, b, T, U, rfl, ea, eb, t2, fin⟩ := h
    have frz : ∀ od, Kp P2 (upd H a (.frz od (.dT (kvsO T)))) (upd H a (.frz od (.dT (kvsO T)))) := fun od => ⟨by
      obtain ⟨ps, e, r⟩ := t2
      exact ⟨ps, (upd_ne fun z => by rw [z, ea] at e; cases e).trans e, r⟩, fun _ _ _ e => e⟩
    refine ⟨a, _, ea, True.intro, fun od => ?_⟩
    have aP : a ≠ P2 := tab_ne t2 ea (fun ps z => by cases z)
    have back : ∀ H', Kp P2 (upd H a (.frz od (.dT (kvsO T)))) H' → H' a = some (.frz od (.dT (kvsO T))) ∧ Kp P2 H (upd H' a (.dT (kvsO T))) := fun H' k => ⟨k.keep _ _ aP upd_same, by
      obtain ⟨ps, e, r⟩ := k.tab
      exact ⟨ps, (upd_ne aP.symm).trans e, r⟩, fun x o n e => by
        by_cases c : x = a
        · rw [c, upd_same, ← ea, ← c]
          exact e
        · rw [upd_ne c]
          exact k.keep x o n ((upd_ne c).trans e)⟩
    have rdU : Rd (upd H a (.frz od (.dT (kvsO T)))) b (.dT (kvsO U)) := by
      by_cases c : b = a
      · subst c
        rw [ea] at eb
        have h : kvsO T = kvsO U := by
          injection (Option.some.inj eb)
        rw [← h]
        exact .inr ⟨od, upd_same⟩
      · exact .inl ((upd_ne c).trans eb)
    have k0 := frz od
    have fin : ∀ H' v, Kp P2 (upd H a (.frz od (.dT (kvsO T)))) H' → v = contraB T U → H' a = some (.frz od (.dT (kvsO T))) ∧ Q (.bl v) (upd H' a (.dT (kvsO T))) := fun H' v k e => ⟨(back H' k).1, by rw [e]; exact fin _ (back H' k).2⟩
    have bP : b ≠ P2 := tab_ne t2 eb (fun ps z => by cases z)
    have rdK : ∀ {H'}, Kp P2 (upd H a (.frz od (.dT (kvsO T)))) H' → Rd H' b (.dT (kvsO U)) := fun k => rdU.elim (fun e => .inl (k.keep _ _ bP e)) fun ⟨o, e⟩ => .inr ⟨o, k.keep _ _ bP e⟩
    have frA : (upd H a (.frz od (.dT (kvsO T)))) a = some (.frz od (.dT (kvsO T))) := upd_same
    generalize upd H a (.frz od (.dT (kvsO T))) = H0 at *
    refine ⟨_, rfl, a, od, _, rfl, frA, k0.tab, fun H2 tb => ⟨fun i σ1 H1 => ∃ v2 v3, σ1 = [some (.ref a), some (.ref b), v2, v3] ∧ Kp P2 H0 H1 ∧ contraB (T.take i) U = false, T.length, ⟨none, none, rfl, Kp.ofTabbed tb, rfl⟩, ?_, ?_⟩⟩
    · rintro i σ1 H1 hi ⟨v2, v3, rfl, k1, no⟩
      have er := List.getElem?_eq_getElem hi
      generalize T[i] = r at er
      obtain ⟨t, o⟩ := r
      have ek : (kvsO T)[i]? = some (keyW t, V.int o) := by
        unfold kvsO
        rw [List.getElem?_map, er]
        rfl
      refine ⟨⟨k1.keep _ _ aP frA, by unfold kvsO; rw [List.length_map]; exact hi⟩, fun y H3 yl => ?_⟩
      obtain ⟨tt, q, k, v, h1, hq, rfl, hn, rfl⟩ := yl
      rw [ek] at h1
      cases h1
      have s3 := same_upd (o := .tup [.ref q, .int o]) (Same.refl H1) hn
      have et : (upd H1 tt (.tup [.ref q, .int o])) tt = some (.tup [.ref q, .int o]) := upd_same
      generalize upd H1 tt (.tup [.ref q, .int o]) = H4 at *
      have k4 := k1.andS s3
      refine ⟨tt, _, rfl, SqT.of et, rfl, _, _, rfl, _, _, rfl, rfl, ?_⟩
      have dg : DGet H4 b (.ref q) ((toldOf U t).map V.int) := by
        rw [← valO]
        exact .inr ⟨_, _, _, rdK k4, rfl, s3 _ _ hq, rfl⟩
      refine ⟨_, rfl, b, rfl, .inr ⟨_, rdK k4⟩, _, rfl, _, rfl, _, dg, _, rfl, ?_⟩
      have eg : ((toldOf U t).map V.int).getD (.int o) = .int ((toldOf U t).getD o) := by cases toldOf U t <;> rfl
      rw [eg]
      have snoc : contraB (T.take (i + 1)) U = decide (V.int ((toldOf U t).getD o) ≠ V.int o) := by
        rw [take_more er]
        unfold contraB at no ⊢
        rw [List.any_append, no]
        simp
      refine ⟨rfl, _, rfl, fun e => ?_, fun e => ?_⟩
      · refine fin H4 true k4 ?_
        unfold contraB
        refine (List.any_eq_true.2 ⟨(t, o), List.mem_of_getElem? er, ?_⟩).symm
        have e : (!decide (V.int ((toldOf U t).getD o) = V.int o)) = true := e
        simpa using e
      · refine ⟨_, _, rfl, k4, ?_⟩
        rw [snoc]
        have e : (!decide (V.int ((toldOf U t).getD o) = V.int o)) = false := e
        simpa using e
    · rintro σ1 H1 ⟨v2, v3, rfl, k1, no⟩
      rw [List.take_length] at no
      exact ⟨⟨k1.keep _ _ aP frA, by unfold kvsO; rw [List.length_map]; exact Nat.le_refl _⟩, fin H1 false k1 no.symm⟩
end
end K42

set_option Elab.async false
set_option linter.all false
set_option maxRecDepth 100000
set_option maxHeartbeats 4000000
namespace K42
open PySem PySem.Spec PyProof.Rows L2 Mz
def LLn (H0 H : Hp) (q : Addr) (bs : List (List Int)) : Prop := ∃ as : List Addr, H q = some (.lst (as.map V.ref)) ∧ LL H as bs ∧ ∀ a ∈ as, H0 a = none ∧ a ≠ q
def spBegin : Sp := fun vs H Q _ => ∃ (l : Addr) (log : Log), vs = [.ref l] ∧ LogAt H l log ∧ Clean log ∧ log.length ≤ 30 ∧ (∀ r ∈ log, r.1.length ≤ 10) ∧
  ∀ (H' : Hp) (q : Addr) (bs : List (List Int)), Same H H' → H q = none → LLn H H' q bs → (∀ b, b ∈ bs ↔ BL log b) → Asc bs → Q (.ref q) H'
def tailsOf (W : List Ent) (b : List Int) : Log := ((valE W b).map fun x => x.2.2).getD []
theorem tails_iff {log : Log} {W : List Ent} (ok : EndOk (DL log) (BL log) W) {u t : List Int} {o : Int} : (t, o) ∈ tailsOf W u ↔ DL log u t o := by
  unfold tailsOf
  cases e : valE W u with
  | some x =>
    obtain ⟨m, e1⟩ := valE_some e
    rw [← e1]
    exact ok.val x m t o
  | none =>
    refine ⟨fun z => absurd z (by simp), fun z => ?_⟩
    obtain ⟨x, hx, e1⟩ := (ok.has u).2 (.inr ⟨_, z, List.prefix_append _ _⟩)
    exact absurd e1 (valE_none e x hx)
theorem told_mem {T : Log} {t : List Int} {o : Int} (c : ∀ o', (t, o') ∈ T → o' = o) (m : (t, o) ∈ T) : toldOf T t = some o := by
  cases e : toldOf T t with
  | none => exact absurd m (told_none e o)
  | some v => rw [c v (told_some e)]
theorem contra_iff {log : Log} (cl : Clean log) {T U : Log} {u v : List Int} (hT : ∀ t o, (t, o) ∈ T ↔ DL log u t o) (hU : ∀ t o, (t, o) ∈ U ↔ DL log v t o) : contraB T U = true ↔ ∃ t o1 o2, DL log u t o1 ∧ DL log v t o2 ∧ o1 ≠ o2 := by
  unfold contraB
  rw [List.any_eq_true]
  constructor
  · rintro ⟨⟨t, o⟩, m, h⟩
    cases e : toldOf U t with
    | none =>
      have h : decide (V.int ((toldOf U t).getD o) ≠ V.int o) = true := h
      rw [e] at h
      exact absurd rfl (of_decide_eq_true h)
    | some x =>
      have h : decide (V.int ((toldOf U t).getD o) ≠ V.int o) = true := h
      rw [e] at h
      refine ⟨t, o, x, (hT t o).1 m, (hU t x).1 (told_some e), fun z => of_decide_eq_true h ?_⟩
      show V.int x = V.int o
      rw [z]
  · rintro ⟨t, o1, o2, h1, h2, ne⟩
    refine ⟨(t, o1), (hT t o1).2 h1, ?_⟩
    have e : toldOf U t = some o2 := told_mem (fun o' h => cl _ ((hU t o').1 h) _ h2 rfl) ((hU t o2).2 h2)
    show decide (V.int ((toldOf U t).getD o1) ≠ V.int o1) = true
    rw [e]
    refine decide_eq_true fun z => ne ?_
    have z : V.int o2 = V.int o1 := z
    cases z
    rfl
def spDoClash (P2 : Addr) : Sp := fun vs H Q _ => ∃ (l a b : Addr) (log : Log) (u v : List Int), vs = [.ref l, .ref a, .ref b] ∧ LogAt H l log ∧ Clean log ∧ log.length ≤ 30 ∧ (∀ r ∈ log, r.1.length ≤ 10) ∧ H a = some (.lst (u.map V.int)) ∧ H b = some (.lst (v.map V.int)) ∧ u.length ≤ 100 ∧ v.length ≤ 100 ∧ GxR.TabG H P2 ∧
  ∀ (H' : Hp) (c : Bool), Kp P2 H H' → (c = true ↔ ∃ t o1 o2, DL log u t o1 ∧ DL log v t o2 ∧ o1 ≠ o2) → Q (.bl c) H'
section
variable {P : Program} {w : World} {K : PySem.W.Frag} {mg : Str → Option Value} {base : Heap} {A : Ads} {c1 c2 c3 P1 P2 P3 : Addr}
theorem ok_wordorder (T : Txt K mg A) : FnOk P w K mg base CX0 1 A.a_word_order A.d_word_order ["word"] (spOrder K) := by
  refine T.F_word_order.ok sc_word_order (fun vs H Q E h => ?_) (fun cdv Ar outer s H vs Q E hr h => ?_)
  · obtain ⟨_, _, rfl, _⟩ := h
    rfl
  · obtain ⟨a, ns, rfl, hS, fin⟩ := h
    refine ⟨_, (pss_one (ps_ret (pe_tup (pa_cons (pe_callB call_len_seq (by rfl) T.n_len PySem.boot_len (pa_cons (pv 0) pa_nil)) (pa_cons (pv 0) pa_nil))))), ?_⟩
    have lv : (ns.map V.int).length = ns.length := List.length_map ..
    rcases hS with hS | hS
    · refine ⟨_, rfl, a, _, rfl, .inl hS, ?_⟩
      rw [lv]
      exact ⟨_, rfl, (by show 2 ≤ sizeLine; decide), fun p hp => fin p hp⟩
    · refine ⟨_, rfl, a, _, rfl, .inr hS, ?_⟩
      rw [lv]
      exact ⟨_, rfl, (by show 2 ≤ sizeLine; decide), fun p hp => fin p hp⟩
theorem LL.push {H : Hp} {as : List Addr} {D : List (List Int)} {a : Addr} {w : List Int} (h : LL H as D) (e : H a = some (.lst (w.map V.int))) : LL H (as ++ [a]) (D ++ [w]) := by
  refine ⟨by rw [List.length_append, List.length_append, h.1]; rfl, fun i x y h1 h2 => ?_⟩
  by_cases c : i < as.length
  · rw [List.getElem?_append_left c] at h1
    rw [List.getElem?_append_left (by rw [← h.1]; exact c)] at h2
    exact h.2 i x y h1 h2
  · rw [List.getElem?_append_right (by omega)] at h1
    rw [List.getElem?_append_right (by rw [← h.1]; omega), ← h.1] at h2
    match hi : i - as.length, h1, h2 with
    | 0, h1, h2 =>
      cases h1
      cases h2
      exact e
    | _ + 1, h1, h2 => cases h1
theorem LLn.push {H0 H : Hp} {q a : Addr} {bs : List (List Int)} {b : List Int} (h : LLn H0 H q bs) (f : H0 a = none) (n : a ≠ q) (e : H a = some (.lst (b.map V.int))) : ∃ acc, H q = some (.lst acc) ∧ acc.length = bs.length ∧ LLn H0 (upd H q (.lst (acc ++ [.ref a]))) q (bs ++ [b]) := by
  obtain ⟨as, h1, h2, h3⟩ := h
  refine ⟨_, h1, (List.length_map ..).trans h2.1, as ++ [a], by rw [upd_same, List.map_append]; rfl, ?_, fun x hx => ?_⟩
  · refine LL.push ⟨h2.1, fun i x y p r => (upd_ne (h3 x (List.mem_of_getElem? p)).2).trans (h2.2 i x y p r)⟩ ((upd_ne n).trans e)
  · rcases List.mem_append.1 hx with z | z
    · exact h3 x z
    · rw [List.mem_singleton.1 z]
      exact ⟨f, n⟩
theorem LLn.same {H0 H H' : Hp} {q : Addr} {bs : List (List Int)} (h : LLn H0 H q bs) (s : Same H H') : LLn H0 H' q bs := let ⟨as, h1, h2, h3⟩ := h; ⟨as, s _ _ h1, h2.same s, h3⟩
theorem ok_begin (T : Txt K mg A) : FnOk P w K mg base CX0 4 A.a_beginnings A.d_beginnings ["log"] spBegin := by
  have G_word_order : FnOk P w K mg base CX0 1 A.a_word_order A.d_word_order ["word"] (spOrder K) := ok_wordorder T
  have G_endings : FnOk P w K mg base CX0 1 A.a_endings A.d_endings ["log"] spEndings := ok_endings T
  refine T.F_beginnings.ok sc_beginnings (fun vs H Q E h => ?_) (fun cdv Ar outer s H vs Q E hr h => ?_)
  · obtain ⟨_, _, rfl, _⟩ := h
    rfl
  · have hr_word_order : Room 3 _ := hr
    have hr_endings : Room 1 _ := hr.mono (by decide)
    refine ⟨_, (pss_one (ps_ret (pe_lc (own := [("word", 1)]) (g := (gName 1)) (tt := tYes) rfl sc_beginnings.nd (pi_list (pe_callBK (cr_sortKD rfl G_word_order hr_word_order T.b_word_order) (by rfl) T.n_sorted (by decide +kernel) (pa_cons (pe_call G_endings hr_endings (by rfl) T.g_endings T.F_endings.kp T.b_endings .nil pass0 (pa_cons (pv 0) pa_nil)) pa_nil) (pk_cons (C8.pe_gc (v := .ref A.a_word_order) (by rfl) ⟨_, T.g_word_order, rfl⟩) pk_nil))) (blkOk_by (N := ["log", "word"]) (sc := defScope s_beginnings) (by decide +kernel)) (fun _ _ _ _ _ => (pg_name (i := 1) sc_beginnings.nd rfl (Or.inl rfl))) (fun _ _ _ _ _ => pts_nil) (fun _ _ _ _ _ => (pe_callTy (r := rLof K) (T := "list") call_lof (by rfl) T.n_list (by decide +kernel) (pa_cons (pv 1) pa_nil)))))), ?_⟩
    obtain ⟨l, log, rfl, hl, cl, l30, lw, fin⟩ := h
    refine ⟨_, rfl, l, log, rfl, hl, cl, l30, lw, fun H1 e W s1 he at1 fr ok1 lW lT => ?_⟩
    refine sort_words (ws := W.map fun x => x.1) at1.top (by rw [List.map_map, List.map_map]; rfl) ok1.keys fun H2 p ts ws s2 hp ep lt hts pm asc => ?_
    refine ⟨p, rfl, ⟨_, SqL.of ep⟩, fun D hD => ?_⟩
    have memW : ∀ b, b ∈ ws ↔ BL log b := fun b => by
      rw [pm.mem_iff, ← ok1.has b, List.mem_map]
    have lws : ws.length ≤ 331 := by
      have := pm.length_eq
      rw [List.length_map] at this
      omega
    have wl : ∀ b ∈ ws, b.length ≤ 10 := fun b hb => by
      rcases (memW b).1 hb with z | ⟨r, hr, h⟩
      · rw [z]; exact Nat.zero_le _
      · have := h.length_le
        have := lw r hr
        omega
    have s12 := s1.trans s2
    refine it_any walk_list (fun i H' => Same H2 H' ∧ LLn H H' D (ws.take i)) ⟨same_upd (Same.refl _) hD, [], upd_same, ⟨rfl, fun i a w h1 _ => by cases h1⟩, fun a ha => absurd ha (by simp)⟩ (fun i H' _ z => SqL.of (z.1 _ _ ep)) ?_ ?_
    · rintro i x H3x H3 hi ⟨s3, l3⟩ ⟨rfl, hx⟩
      obtain ⟨t, ht, rfl⟩ := ofV hx
      have li : i < ws.length := by
        rw [List.length_map, lt] at hi
        exact hi
      have ew := List.getElem?_eq_getElem li
      generalize ws[i] = b at ew
      have et := s3 _ _ (hts i t b ht ew)
      refine ⟨rfl, _, rfl, t, _, rfl, .inr (SqT.of et), fun u hu => ?_⟩
      have s4 := same_upd (o := .lst (b.map V.int)) (Same.refl H3) hu
      have eu : (upd H3 u (.lst (b.map V.int))) u = some (.lst (b.map V.int)) := upd_same
      have nD : u ≠ D := fun z => by
        obtain ⟨us, e, _⟩ := l3
        rw [z, e] at hu
        cases hu
      have fu : H u = none := (s12.trans s3).free hu
      generalize upd H3 u (.lst (b.map V.int)) = H4 at *
      obtain ⟨acc, ea, la, l5⟩ := (l3.same s4).push fu nD eu
      refine ⟨acc, ea, Nat.lt_of_le_of_lt (by rw [la, List.length_take]; omega : acc.length ≤ 1000) (by decide), same_set (s3.trans s4) hD, ?_⟩
      rw [take_more ew]
      exact l5
    · rintro H3 ⟨s3, l3⟩
      rw [List.length_map, lt, List.take_length] at l3
      exact fin H3 D ws (s12.trans s3) (s12.free hD) l3 memW asc
theorem ok_doclash (T : Txt K mg A) (TB2 : GxR.TabB base mg c2 P2) (hc2 : A.d_contradict.code = .ref c2) : FnOk P w K mg base CX0 6 A.a_do_clash A.d_do_clash ["log", "first", "second"] (spDoClash P2) := by
  have G_contradict : FnOk P w K mg base CX0 5 A.a_contradict A.d_contradict ["endings", "others"] (spContra P2) := ok_contra T TB2 hc2
  have G_endings : FnOk P w K mg base CX0 1 A.a_endings A.d_endings ["log"] spEndings := ok_endings T
  refine T.F_do_clash.ok sc_do_clash (fun vs H Q E h => ?_) (fun cdv Ar outer s H vs Q E hr h => ?_)
  · obtain ⟨_, _, _, _, _, _, rfl, _⟩ := h
    rfl
  · have hr_contradict : Room 5 _ := hr
    have hr_endings : Room 1 _ := hr.mono (by decide)
    refine ⟨_, (pss_cons (ps_set (i := 3) sc_do_clash.nd rfl (Or.inl rfl) (pe_call G_endings hr_endings (by rfl) T.g_endings T.F_endings.kp T.b_endings .nil pass0 (pa_cons (pv 0) pa_nil)))
      (pss_one (ps_ret (pe_call G_contradict hr_contradict (by rfl) T.g_contradict T.F_contradict.kp T.b_contradict .nil pass0 (pa_cons (pe_dget2 (hu_of hr) (pv 3) (pe_callTy call_tuple_of (by rfl) T.n_tuple (by decide +kernel) (pa_cons (pv 1) pa_nil)) pe_dnewT ⟨rfl, rfl, rfl, rfl⟩) (pa_cons (pe_dget2 (hu_of hr) (pv 3) (pe_callTy call_tuple_of (by rfl) T.n_tuple (by decide +kernel) (pa_cons (pv 2) pa_nil)) pe_dnewT ⟨rfl, rfl, rfl, rfl⟩) pa_nil)))))), ?_⟩
    obtain ⟨l, a, b, log, u, v, rfl, hl, cl, l30, lw, ea, eb, lu, lv, t2, fin⟩ := h
    refine ⟨_, rfl, l, log, rfl, hl, cl, l30, lw, fun H1 e W s1 he at1 fr ok1 lW lT => ?_⟩
    have got : ∀ {H' : Hp} {z kb : Addr} {u : List Int}, Same H1 H' → H' z = some (.dT (kvsO [])) → H' kb = some (.tup (u.map V.int)) → ∃ d, DGet H' e (.ref kb) ((valE W u).map fun x => V.ref x.2.1) ∧ (((valE W u).map fun x => V.ref x.2.1).getD (.ref z)) = .ref d ∧ H' d = some (.dT (kvsO (tailsOf W u))) := fun {H' z kb u} s ez ek => by
      have dg : DGet H' e (.ref kb) ((valE W u).map fun x => V.ref x.2.1) := by
        rw [← valE_eq]
        exact DGet.t (s _ _ at1.top) (by rw [keyW_V]; exact ek)
      cases hv : valE W u with
      | none =>
        rw [hv] at dg
        exact ⟨z, dg, rfl, by unfold tailsOf; rw [hv]; exact ez⟩
      | some x =>
        rw [hv] at dg
        exact ⟨x.2.1, dg, rfl, by unfold tailsOf; rw [hv]; exact s _ _ (at1.sub x (valE_some hv).1)⟩
    refine ⟨_, rfl, e, rfl, .inr ⟨_, .inl at1.top⟩, ?_⟩
    refine ⟨_, rfl, a, _, rfl, .inl ⟨SqL.of (s1 _ _ ea), fun ka hka => ?_⟩⟩
    have s2 := same_upd (o := .tup (u.map V.int)) (Same.refl H1) hka
    have eka : (upd H1 ka (.tup (u.map V.int))) ka = some (.tup (u.map V.int)) := upd_same
    generalize upd H1 ka (.tup (u.map V.int)) = H2 at *
    intro z1 hz1
    have s3 := same_upd (o := .dT []) (Same.refl H2) hz1
    have ez1 : (upd H2 z1 (.dT [])) z1 = some (.dT (kvsO [])) := upd_same
    generalize upd H2 z1 (.dT []) = H3 at *
    obtain ⟨d1, dg1, ed1, hd1⟩ := got (s2.trans s3) ez1 (s3 _ _ eka)
    refine ⟨_, dg1, ?_⟩
    rw [ed1]
    have s13 := s2.trans s3
    refine ⟨_, rfl, e, rfl, .inr ⟨_, .inl (s13 _ _ at1.top)⟩, ?_⟩
    refine ⟨_, rfl, b, _, rfl, .inl ⟨SqL.of (s13 _ _ (s1 _ _ eb)), fun kb hkb => ?_⟩⟩
    have s4 := same_upd (o := .tup (v.map V.int)) (Same.refl H3) hkb
    have ekb : (upd H3 kb (.tup (v.map V.int))) kb = some (.tup (v.map V.int)) := upd_same
    generalize upd H3 kb (.tup (v.map V.int)) = H4 at *
    intro z2 hz2
    have s5 := same_upd (o := .dT []) (Same.refl H4) hz2
    have ez2 : (upd H4 z2 (.dT [])) z2 = some (.dT (kvsO [])) := upd_same
    generalize upd H4 z2 (.dT []) = H5 at *
    obtain ⟨d2, dg2, ed2, hd2⟩ := got (s13.trans (s4.trans s5)) ez2 (s5 _ _ ekb)
    refine ⟨_, dg2, ?_⟩
    rw [ed2]
    have s15 := s1.trans (s13.trans (s4.trans s5))
    have t5 : GxR.TabG H5 P2 := let ⟨ps, e, r⟩ := t2; ⟨ps, s15 _ _ e, r⟩
    refine ⟨d1, d2, _, _, rfl, (s4.trans s5) _ _ hd1, hd2, t5, fun H6 k6 => ?_⟩
    exact fin H6 _ ((Kp.of t2 s15).trans k6) (contra_iff cl (fun t o => tails_iff ok1) (fun t o => tails_iff ok1))
end
end K42

set_option Elab.async false
set_option linter.all false
set_option maxRecDepth 100000
set_option maxHeartbeats 4000000
/-! several tables: what is kept while each of them may grow -/
namespace Mz
open PySem PySem.Spec PyProof.Rows L2
def TL (Ps : List Addr) (H : Hp) : Prop := ∀ p ∈ Ps, GxR.TabG H p
/-- all kept but tables -/
structure KL (Ps : List Addr) (H H' : Hp) : Prop where
  tab : TL Ps H'
  keep : ∀ b o, b ∉ Ps → H b = some o → H' b = some o
section
variable {Ps : List Addr} {H H' H2 : Hp}
theorem TL.ne (t : TL Ps H) {a : Addr} {o : HO} (h : H a = some o) (n : ∀ ps, o ≠ .tbl ps) : a ∉ Ps := fun m => absurd rfl (tab_ne (t a m) h n)
theorem TL.same (t : TL Ps H) (s : Same H H') : TL Ps H' := fun p hp => let ⟨ps, q, r⟩ := t p hp; ⟨ps, s _ _ q, r⟩
theorem KL.refl (t : TL Ps H) : KL Ps H H := ⟨t, fun _ _ _ e => e⟩
theorem KL.trans (k : KL Ps H H') (j : KL Ps H' H2) : KL Ps H H2 := ⟨j.tab, fun b o n e => j.keep b o n (k.keep b o n e)⟩
theorem KL.same (k : KL Ps H H') (s : Same H' H2) : KL Ps H H2 := ⟨k.tab.same s, fun b o n e => s _ _ (k.keep b o n e)⟩
theorem KL.of (t : TL Ps H) (s : Same H H') : KL Ps H H' := (KL.refl t).same s
/-- one of the tables grew -/
theorem KL.kp {P : Addr} (hP : P ∈ Ps) (k : KL Ps H H') (j : Kp P H' H2) : KL Ps H H2 := by
  refine ⟨fun p hp => ?_, fun b o n e => j.keep b o (fun z => n (z ▸ hP)) (k.keep b o n e)⟩
  by_cases c : p = P
  · rw [c]
    exact j.tab
  · obtain ⟨ps, q, r⟩ := k.tab p hp
    exact ⟨ps, j.keep _ _ c q, r⟩
theorem KL.lst (k : KL Ps H H') (t : TL Ps H) {a : Addr} {xs : List V} (h : H a = some (.lst xs)) : H' a = some (.lst xs) := k.keep _ _ (t.ne h (fun _ z => by cases z)) h
theorem KL.tup (k : KL Ps H H') (t : TL Ps H) {a : Addr} {xs : List V} (h : H a = some (.tup xs)) : H' a = some (.tup xs) := k.keep _ _ (t.ne h (fun _ z => by cases z)) h
theorem KL.ma (k : KL Ps H H') (t : TL Ps H) {m : Addr} {M : Mach} (h : MA H m M) : MA H' m M := by
  obtain ⟨mv, ou, rs, h⟩ := h
  exact ⟨mv, ou, rs, k.tup t h.top, k.tup t h.mv, k.tup t h.ou, h.len, fun i r w a b => k.tup t (h.row i r w a b)⟩
/-- a new object changed -/
theorem KL.set (k : KL Ps H H') (t : TL Ps H) {p : Addr} {o : HO} (hp : H p = none) : KL Ps H (upd H' p o) := by
  refine ⟨fun q hq => ?_, fun b u n e => (upd_ne fun z => by rw [z, hp] at e; cases e).trans (k.keep b u n e)⟩
  obtain ⟨ps, e, r⟩ := k.tab q hq
  refine ⟨ps, (upd_ne fun z => ?_).trans e, r⟩
  obtain ⟨ps2, e2, _⟩ := t q hq
  rw [z, hp] at e2
  cases e2
theorem KL.seq {K : PySem.W.Frag} (k : KL Ps H H') (t : TL Ps H) {a : Addr} {xs : List V} (h : SqL K H a xs) : SqL K H' a xs := by
  rcases h with (h | ⟨o, h⟩) | h
  · exact .inl (.inl (k.keep _ _ (t.ne h (fun _ z => by cases z)) h))
  · exact .inl (.inr ⟨o, k.keep _ _ (t.ne h (fun _ z => by cases z)) h⟩)
  · exact .inr h
end
end Mz

set_option Elab.async false
set_option linter.all false
set_option maxRecDepth 100000
set_option maxHeartbeats 4000000
/-! the first of lists of lists in Python's order -/
namespace Mz
open PySem PySem.Spec PyProof.Rows L2 PySem.SeqAt
def rowsT (rs : List (List Int)) : PyData := .list (rs.map dRow)
theorem lt_row (a b : List Int) : PySem.W.dataLt (dRow a) (dRow b) = decide (a < b) := by
  unfold dRow
  rw [PySem.W.dataLt_tuple]
  exact PySem.W.dataLt_ints a b
theorem alike_dRow (a b : List Int) : PySem.W.alike (dRow a) (dRow b) = true := by
  unfold dRow
  simp only [PySem.W.alike]
  exact PySem.W.alikeAll_map (α := Int) a b
theorem eqv_dRow (a b : List Int) : PyData.eqv (dRow a) (dRow b) = decide (a = b) := by
  unfold dRow
  rw [PyData.eqv]
  exact eqv_ints a b
theorem lt_rows : ∀ a b : List (List Int), PySem.W.dataLt (rowsT a) (rowsT b) = decide (a < b)
  | [], [] => by
    unfold rowsT
    rw [PySem.W.dataLt_self]
    simp
  | [], b :: bs => by
    unfold rowsT
    rw [PySem.W.dataLt_list, List.map_nil, List.map_cons, PySem.W.toks_all_cons]
    simp only [PySem.W.keyToksAll]
    rw [lex_diff (O := itemOrd) (by simp)]
    simp [itemOrd]
    try rfl
  | a :: as, [] => by
    unfold rowsT
    rw [PySem.W.dataLt_list, List.map_nil, List.map_cons, PySem.W.toks_all_cons]
    simp only [PySem.W.keyToksAll]
    rw [lex_diff (O := itemOrd) (by simp)]
    simp [itemOrd]
    try rfl
  | a :: as, b :: bs => by
    have ih := lt_rows as bs
    unfold rowsT at ih ⊢
    rw [PySem.W.dataLt_list] at ih ⊢
    rw [List.map_cons, List.map_cons, PySem.W.dataLt_cons (alike_dRow a b), eqv_dRow, ih, lt_row]
    by_cases h : a = b
    · subst h
      simp [List.cons_lt_cons_iff]
    · simp [List.cons_lt_cons_iff, h]
theorem tri_int (a b : Int) (h1 : ¬ a < b) (h2 : ¬ b < a) : a = b := by omega
theorem tri_list {α : Type} [LT α] (h : ∀ a b : α, ¬ a < b → ¬ b < a → a = b) : ∀ as bs : List α, ¬ as < bs → ¬ bs < as → as = bs
  | [], [], _, _ => rfl
  | [], b :: bs, h1, _ => absurd (List.nil_lt_cons b bs) h1
  | a :: as, [], _, h2 => absurd (List.nil_lt_cons a as) h2
  | a :: as, b :: bs, h1, h2 => by
    rw [List.cons_lt_cons_iff] at h1 h2
    have e := h a b (fun z => h1 (.inl z)) (fun z => h2 (.inl z))
    subst e
    rw [tri_list h as bs (fun z => h1 (.inr ⟨rfl, z⟩)) (fun z => h2 (.inr ⟨rfl, z⟩))]
theorem tra_list {α : Type} [LT α] (t : ∀ a b c : α, a < b → b < c → a < c) : ∀ as bs cs : List α, as < bs → bs < cs → as < cs
  | _, [], _, h, _ => absurd h (List.not_lt_nil _)
  | _, _ :: _, [], _, h => absurd h (List.not_lt_nil _)
  | [], _ :: _, c :: cs, _, _ => List.nil_lt_cons c cs
  | a :: as, b :: bs, c :: cs, h1, h2 => by
    rw [List.cons_lt_cons_iff] at h1 h2 ⊢
    rcases h1 with h1 | ⟨rfl, h1⟩
    · rcases h2 with h2 | ⟨rfl, h2⟩
      · exact .inl (t a b c h1 h2)
      · exact .inl h1
    · rcases h2 with h2 | ⟨rfl, h2⟩
      · exact .inl h2
      · exact .inr ⟨rfl, tra_list t as bs cs h1 h2⟩
theorem tri_rows (a b : List (List Int)) : ¬ a < b → ¬ b < a → a = b := tri_list (tri_list tri_int) a b
theorem tra_rows (a b c : List (List Int)) : a < b → b < c → a < c := tra_list (tra_list fun a b c h1 h2 => by omega) a b c
theorem irr_list {α : Type} [LT α] (i : ∀ a : α, ¬ a < a) : ∀ as : List α, ¬ as < as
  | [], h => List.not_lt_nil _ h
  | a :: as, h => by
    rw [List.cons_lt_cons_iff] at h
    rcases h with h | ⟨_, h⟩
    · exact i a h
    · exact irr_list i as h
theorem irr_row (a : List Int) : ¬ a < a := irr_list (fun a h => by omega) a
theorem irr_rows (a : List (List Int)) : ¬ a < a := irr_list irr_row a
/-- not behind: as `≤` -/
def Le (a b : List (List Int)) : Prop := ¬ b < a
theorem Le.trans {a b c : List (List Int)} (h1 : Le a b) (h2 : Le b c) : Le a c := fun h => by
  by_cases e : a < b
  · exact h2 (tra_rows c a b h e)
  · have := tri_rows a b e h1
    subst this
    exact h2 h
theorem Le.refl (a : List (List Int)) : Le a a := irr_rows a
theorem Le.anti {a b : List (List Int)} (h1 : Le a b) (h2 : Le b a) : a = b := tri_rows a b h2 h1
theorem Le.of_lt {a b : List (List Int)} (h : a < b) : Le a b := fun z => irr_rows a (tra_rows a b a h z)
/-- the first of some is one of them, and none is ahead of it -/
theorem min_first {α : Type} (f : α → List (List Int)) : ∀ (xs : List α) (d : α), ∃ m ∈ d :: xs, PySem.W.minD (rowsT (f d)) (xs.map fun x => rowsT (f x)) = rowsT (f m) ∧ ∀ y ∈ d :: xs, Le (f m) (f y)
  | [], d => ⟨d, List.mem_cons_self, rfl, fun y hy => by rw [List.mem_singleton.1 hy]; exact Le.refl _⟩
  | x :: xs, d => by
    have e : PySem.W.minD (rowsT (f d)) ((x :: xs).map fun x => rowsT (f x)) = PySem.W.minD (if PySem.W.dataLt (rowsT (f x)) (rowsT (f d)) then rowsT (f x) else rowsT (f d)) (xs.map fun x => rowsT (f x)) := rfl
    rw [e, lt_rows]
    by_cases c : f x < f d
    · rw [if_pos (decide_eq_true c)]
      obtain ⟨m, hm, e2, h⟩ := min_first f xs x
      refine ⟨m, List.mem_cons_of_mem _ hm, e2, fun y hy => ?_⟩
      rcases List.mem_cons.1 hy with z | z
      · rw [z]
        exact (h x List.mem_cons_self).trans (Le.of_lt c)
      · exact h y z
    · rw [if_neg (by rw [decide_eq_false c]; decide)]
      obtain ⟨m, hm, e2, h⟩ := min_first f xs d
      refine ⟨m, ?_, e2, fun y hy => ?_⟩
      · rcases List.mem_cons.1 hm with z | z
        · rw [z]
          exact List.mem_cons_self
        · exact List.mem_cons_of_mem _ (List.mem_cons_of_mem _ z)
      · rcases List.mem_cons.1 hy with z | z
        · rw [z]
          exact h d List.mem_cons_self
        · rcases List.mem_cons.1 z with z | z
          · rw [z]
            exact (h d List.mem_cons_self).trans c
          · exact h y (List.mem_cons_of_mem _ z)
theorem rowsT_inj {a b : List (List Int)} (h : rowsT a = rowsT b) : a = b := by
  have e : PyData.eqv (rowsT a) (rowsT b) = decide (a = b) := by
    unfold rowsT
    rw [PyData.eqv]
    exact eqv_rows a b
  have e2 : PyData.eqv (rowsT b) (rowsT b) = true := by
    unfold rowsT
    rw [PyData.eqv]
    exact (eqv_rows b b).trans (decide_eq_true rfl)
  rw [h, e2] at e
  exact of_decide_eq_true e.symm
/-- rows with the same moves, whose outputs are no greater, come no later -/
theorem le_outs : ∀ {as bs : List (List Int)}, Paired (fun r s => ∃ (h h' : Int) (t : List Int), r = h :: t ∧ s = h' :: t ∧ h ≤ h') as bs → Le as bs
  | _, _, .nil => Le.refl _
  | _ :: _, _ :: _, .cons ⟨h, h', t, e1, e2, le⟩ p => by
    have ih := le_outs p
    intro z
    rw [List.cons_lt_cons_iff, e1, e2, List.cons_lt_cons_iff] at z
    rcases z with (z | ⟨_, z⟩) | ⟨_, z⟩
    · omega
    · exact irr_row t z
    · exact ih z
end Mz

set_option Elab.async false
set_option linter.all false
set_option maxRecDepth 100000
set_option maxHeartbeats 4000000
namespace K42
open PySem PySem.Spec PyProof.Rows L2 L2N Mz
/-! ### words of which each two clash -/
def Cls (log : Log) (u v : List Int) : Prop := ∃ t o1 o2, DL log u t o1 ∧ DL log v t o2 ∧ o1 ≠ o2
theorem Cls.symm {log : Log} {u v : List Int} (h : Cls log u v) : Cls log v u := let ⟨t, o1, o2, h1, h2, n⟩ := h; ⟨t, o2, o1, h2, h1, n.symm⟩
theorem Cls.irr {log : Log} (cl : Clean log) {u : List Int} : ¬ Cls log u u := fun ⟨t, o1, o2, h1, h2, n⟩ => n (cl _ h1 _ h2 rfl)
def stepG (c : List Int → List Int → Bool) (bs ch : List (List Int)) (b : List Int) : List (List Int) := if (bs.any (c b) && ch.all (c b)) = true then ch ++ [b] else ch
def chG (c : List Int → List Int → Bool) (bs : List (List Int)) (i : Nat) : List (List Int) := (bs.take i).foldl (stepG c bs) []
theorem chG_succ {c : List Int → List Int → Bool} {bs : List (List Int)} {i : Nat} {b : List Int} (h : bs[i]? = some b) : chG c bs (i + 1) = stepG c bs (chG c bs i) b := by
  unfold chG
  rw [take_more h, List.foldl_append]
  rfl
structure GI (c : List Int → List Int → Bool) (bs : List (List Int)) (i : Nat) (ch : List (List Int)) : Prop where
  sub : ch.Sublist (bs.take i)
  two : ch.Pairwise fun u v => c v u = true
  out : ∀ b ∈ bs.take i, b ∉ ch → bs.any (c b) = false ∨ ∃ u ∈ ch, c b u = false
  any : ∀ u ∈ ch, bs.any (c u) = true
  some : (∃ b ∈ bs.take i, bs.any (c b) = true) → ch ≠ []
theorem gi (c : List Int → List Int → Bool) (bs : List (List Int)) : ∀ i, i ≤ bs.length → GI c bs i (chG c bs i)
  | 0, _ => ⟨List.Sublist.refl _, List.Pairwise.nil, fun b h => absurd h (by simp), fun u h => absurd h (by simp [chG]), fun ⟨b, h, _⟩ => absurd h (by simp)⟩
  | i + 1, hi => by
    have g := gi c bs i (by omega)
    have e := List.getElem?_eq_getElem (show i < bs.length from hi)
    generalize bs[i] = b at e
    rw [chG_succ e]
    unfold stepG
    by_cases h : (bs.any (c b) && (chG c bs i).all (c b)) = true
    · rw [if_pos h]
      rw [Bool.and_eq_true] at h
      refine ⟨by rw [take_more e]; exact g.sub.append (List.Sublist.refl _), ?_, fun x hx nx => ?_, fun u hu => ?_, fun _ z => by simp at z⟩
      · rw [List.pairwise_append]
        refine ⟨g.two, List.pairwise_singleton .., fun u hu v hv => ?_⟩
        rw [List.mem_singleton.1 hv]
        exact List.all_eq_true.1 h.2 u hu
      · rw [take_more e] at hx
        rcases List.mem_append.1 hx with q | q
        · rcases g.out x q (fun z => nx (List.mem_append_left _ z)) with z | ⟨u, hu, z⟩
          · exact .inl z
          · exact .inr ⟨u, List.mem_append_left _ hu, z⟩
        · exact absurd (List.mem_append_right _ q) nx
      · rcases List.mem_append.1 hu with q | q
        · exact g.any u q
        · rw [List.mem_singleton.1 q]
          exact h.1
    · rw [if_neg h]
      refine ⟨by rw [take_more e]; exact g.sub.trans (List.sublist_append_left _ _), g.two, fun x hx nx => ?_, g.any, fun ⟨x, hx, ax⟩ => ?_⟩
      · rw [take_more e] at hx
        rcases List.mem_append.1 hx with q | q
        · exact g.out x q nx
        · rw [List.mem_singleton.1 q]
          by_cases z : bs.any (c b) = true
          · refine .inr ?_
            have : (chG c bs i).all (c b) = false := by
              cases y : (chG c bs i).all (c b) with
              | false => rfl
              | true => rw [z, y] at h; exact absurd rfl h
            obtain ⟨u, hu, hc⟩ := List.all_eq_false.1 this
            exact ⟨u, hu, by simpa using hc⟩
          · exact .inl (by simpa using z)
      · rw [take_more e] at hx
        rcases List.mem_append.1 hx with q | q
        · exact g.some ⟨x, q, ax⟩
        · rw [List.mem_singleton.1 q] at ax
          intro z
          rw [ax, z] at h
          exact h rfl
structure GoodList (log : Log) (bs ws : List (List Int)) : Prop where
  sub : ws.Sublist bs
  two : ws.Pairwise fun u v => Cls log u v
  out : ∀ b ∈ bs, b ∉ ws → ∃ u ∈ ws, ¬ Cls log u b
  few : ws.length < 2 → ∀ u ∈ bs, ∀ v ∈ bs, ¬ Cls log u v
  ne : ws ≠ []
theorem good_list {log : Log} {c : List Int → List Int → Bool} {bs : List (List Int)} (hc : ∀ u v, c u v = true ↔ Cls log u v) (cl : Clean log) (h0 : [] ∈ bs) : GoodList log bs (if chG c bs bs.length = [] then [[]] else chG c bs bs.length) := by
  have g := gi c bs bs.length (Nat.le_refl _)
  have hf : ∀ {u v}, c u v = false → ¬ Cls log u v := fun {u v} h z => by rw [(hc u v).2 z] at h; cases h
  by_cases e : chG c bs bs.length = []
  · rw [if_pos e]
    have none : ∀ u ∈ bs, ∀ v ∈ bs, ¬ Cls log u v := fun u hu v hv z => g.some ⟨u, by rw [List.take_length]; exact hu, List.any_eq_true.2 ⟨v, hv, (hc u v).2 z⟩⟩ e
    exact ⟨by simpa using h0, List.pairwise_singleton .., fun b hb _ => ⟨[], List.mem_cons_self, none _ h0 _ hb⟩, fun _ => none, by simp⟩
  · rw [if_neg e]
    have gs := g.sub
    rw [List.take_length] at gs
    have hin : ∀ {u}, u ∈ chG c bs bs.length → u ∈ bs := fun h => gs.subset h
    have out : ∀ b ∈ bs, b ∉ chG c bs bs.length → ∃ u ∈ chG c bs bs.length, ¬ Cls log u b := fun b hb nb => by
      rcases g.out b (by rw [List.take_length]; exact hb) nb with z | ⟨u, hu, z⟩
      · obtain ⟨u, hu⟩ := List.exists_mem_of_ne_nil _ e
        refine ⟨u, hu, fun q => ?_⟩
        have := List.any_eq_false.1 z u (hin hu)
        exact this ((hc b u).2 q.symm)
      · exact ⟨u, hu, fun q => hf z q.symm⟩
    refine ⟨gs, g.two.imp fun h => ((hc _ _).1 h).symm, out, fun l => ?_, e⟩
    exfalso
    obtain ⟨u, hu⟩ := List.exists_mem_of_ne_nil _ e
    have e1 : chG c bs bs.length = [u] := by
      match q : chG c bs bs.length, l, hu with
      | [x], _, hu => rw [List.mem_singleton.1 hu]
      | [], _, hu => cases hu
      | _ :: _ :: _, l, _ =>
        simp only [List.length_cons] at l
        omega
    obtain ⟨v, hv, cv⟩ := List.any_eq_true.1 (g.any u hu)
    have cv := (hc u v).1 cv
    have nv : v ∉ chG c bs bs.length := fun z => by
      rw [e1] at z
      rw [List.mem_singleton.1 z] at cv
      exact cv.irr cl
    obtain ⟨x, hx, nx⟩ := out v hv nv
    rw [e1] at hx
    rw [List.mem_singleton.1 hx] at nx
    exact nx cv
theorem shaped_tup (w : List Int) : SeqAt.shaped (dRow w) = true := by
  have h := depthI w
  have e : PyData.depth (dRow w) ≤ 64 := by
    unfold dRow
    simp only [PyData.depth]
    omega
  have l := lay_ints w
  show (PyData.canLay0 (dRow w) && decide (PyData.depth (dRow w) ≤ 64)) = true
  rw [decide_eq_true e]
  unfold dRow
  simp [PyData.canLay0, l]
theorem shaped_tups (ws : List (List Int)) : SeqAt.shaped (.list (ws.map dRow)) = true := by
  have h := Mz.depth_rows ws
  have e : PyData.depth (.list (ws.map dRow)) ≤ 64 := by
    simp only [PyData.depth]
    omega
  have l := lay_rows ws
  show (PyData.canLay0 (.list (ws.map dRow)) && decide (PyData.depth (.list (ws.map dRow)) ≤ 64)) = true
  rw [decide_eq_true e]
  simp [PyData.canLay0, l]
theorem any_tups (ws : List (List Int)) (u : List Int) : ((ws.map dRow).any fun z => PyData.eqv z (dRow u)) = decide (u ∈ ws) := by
  rw [List.any_map, Bool.eq_iff_iff, List.any_eq_true, decide_eq_true_iff]
  constructor
  · rintro ⟨x, hx, h⟩
    have : PyData.eqv (dRow x) (dRow u) = true := h
    rw [eqv_dRow] at this
    rw [← of_decide_eq_true this]
    exact hx
  · intro h
    exact ⟨u, h, by show PyData.eqv (dRow u) (dRow u) = true; rw [eqv_dRow]; exact decide_eq_true rfl⟩
theorem dp_tups {K : PySem.W.Frag} {H : Hp} : ∀ {ts : List Addr} {ws : List (List Int)}, Rel IT H ts ws → DpAll K H (ts.map V.ref) (ws.map dRow)
  | [], [], _ => .nil
  | [], _ :: _, h => by cases h.1
  | _ :: _, [], h => by cases h.1
  | t :: ts, w :: ws, h => .cons (.tup (SqT.of (h.2 0 t w rfl rfl)) (dp_ints w)) (dp_tups ⟨by have := h.1; simpa using this, fun i u y p q => h.2 (i + 1) u y p q⟩)
theorem KL.free {Ps : List Addr} {H H' : Hp} (k : KL Ps H H') {a : Addr} (h : H' a = none) : H a = none := by
  cases e : H a with
  | none => rfl
  | some o =>
    by_cases c : a ∈ Ps
    · obtain ⟨ps, q, _⟩ := k.tab a c
      rw [q] at h
      cases h
    · rw [k.keep a o c e] at h
      cases h
def spClashList (P1 P2 P3 : Addr) : Sp := fun vs H Q _ => ∃ (L O : Int) (l : Addr) (log : Log), vs = [.int L, .int O, .ref l] ∧ LogAt H l log ∧ Clean log ∧ InRange L O log ∧ TL [P1, P2, P3] H ∧
  ∀ (H' : Hp) (q : Addr) (ws bs : List (List Int)), KL [P1, P2, P3] H H' → H q = none → LLn H H' q ws → (∀ b, b ∈ bs ↔ BL log b) → Asc bs → GoodList log bs ws → Q (.ref q) H'
section
variable {P : Program} {w : World} {K : PySem.W.Frag} {mg : Str → Option Value} {base : Heap} {A : Ads} {c1 c2 c3 P1 P2 P3 : Addr}
theorem ok_clashlist (T : Txt K mg A) (TB1 : GxR.TabB base mg c1 P1) (hc1 : A.d_are_below.code = .ref c1) (TB2 : GxR.TabB base mg c2 P2) (hc2 : A.d_contradict.code = .ref c2) (TB3 : GxR.TabB base mg c3 P3) (hc3 : A.d_clash_list.code = .ref c3) : FnOk P w K mg base (L2N.CX P w) 6 A.a_clash_list A.d_clash_list ["letters", "outs", "log"] (spClashList P1 P2 P3) := by
  have G_word_order : FnOk P w K mg base CX0 1 A.a_word_order A.d_word_order ["word"] (spOrder K) := ok_wordorder T
  have G_endings : FnOk P w K mg base CX0 1 A.a_endings A.d_endings ["log"] spEndings := ok_endings T
  have G_contradict : FnOk P w K mg base CX0 5 A.a_contradict A.d_contradict ["endings", "others"] (spContra P2) := ok_contra T TB2 hc2
  have G_check_log : FnOk P w K mg base (L2N.CX P w) 3 A.a_check_log A.d_check_log ["letters", "outs", "log"] (spCheckLog A P1) := ok_checklog T TB1 hc1
  refine okNC T.F_clash_list sc_clash_list (fun vs H Q E h => ?_) (fun Ar outer s H vs Q E hr h => ?_)
  · obtain ⟨_, _, _, _, rfl, _⟩ := h
    rfl
  · have hr_word_order : Room 3 _ := hr.mono (by decide)
    have hr_endings : Room 1 _ := hr.mono (by decide)
    have hr_contradict : Room 5 _ := hr
    have hr_check_log : Room 3 _ := hr.mono (by decide)
    have hr' : Room 4 _ := hr.mono (by decide)
    refine ⟨_, (pss_cons (ps_expr (pe_call G_check_log hr_check_log (by rfl) T.g_check_log T.F_check_log.kp T.b_check_log .nil (L2N.passes_call (L2N.takes_of rfl rfl rfl rfl) (fun _ _ _ _ h => h)) (pa_cons (pv 0) (pa_cons (pv 1) (pa_cons (pv 2) pa_nil)))))
      (pss_cons (ps_set (i := 3) sc_clash_list.nd rfl (Or.inr rfl) (pe_call G_endings hr_endings (by rfl) T.g_endings T.F_endings.kp T.b_endings .nil pass0 (pa_cons (pv 2) pa_nil)))
      (pss_cons (ps_set (i := 4) sc_clash_list.nd rfl (Or.inl rfl) (pe_callBK (cr_sortKD rfl G_word_order hr_word_order T.b_word_order) (by rfl) T.n_sorted (by decide +kernel) (pa_cons (pv 3) pa_nil) (pk_cons (C8.pe_gc (v := .ref A.a_word_order) (by rfl) ⟨_, T.g_word_order, rfl⟩) pk_nil)))
      (pss_cons (ps_set (i := 5) sc_clash_list.nd rfl (Or.inl rfl) (pe_lst pa_nil))
      (pss_cons (ps_for (passes_of rfl) rfl (pi_list (pv 4)) (pg_name (i := 6) sc_clash_list.nd rfl (Or.inr rfl))
        (pss_cons (ps_set (i := 7) sc_clash_list.nd rfl (Or.inr rfl) (pe_lc (own := [("other", 8)]) (g := (gName 8)) rfl sc_clash_list.nd (pi_list (pv 4)) (blkOk_by (N := ["letters", "outs", "log", "endings", "order", "chosen", "word", "clashing", "other"]) (sc := defScope s_clash_list) (by decide +kernel)) (fun _ _ _ _ _ => (pg_name (i := 8) sc_clash_list.nd rfl (Or.inl rfl))) (fun _ _ _ _ _ => (pts_one (pt_val (pe_call G_contradict hr_contradict (by rfl) T.g_contradict T.F_contradict.kp T.b_contradict .nil pass0 (pa_cons (pe_dget (hu_of hr) (pv 3) (pv 6) (fun _ _ => rfl)) (pa_cons (pe_dget (hu_of hr) (pv 3) (pv 8) (fun _ _ => rfl)) pa_nil)))))) (fun _ _ _ _ _ => (pv 8))))
          (pss_one (ps_if (PW.pt (pw_and (pt_truth (pv 7) (by intro _; rfl)) (pw_and1 (pt_val (pe_allG (k := 1) (x := "other") ["letters", "outs", "log", "endings", "order", "chosen", "word", "clashing", "other"] (fun σ => σ.set 8 none) hr' (by rfl) T.n_all (by decide +kernel) TB3 hc3
        (by exact ⟨rfl, rfl, by decide +kernel, rfl, rfl, fun y hy e => by (simp only [List.mem_cons, List.not_mem_nil, or_false] at hy; rcases hy with rfl | rfl | rfl | rfl | rfl | rfl <;> first | (cases e; done) | exact .inl rfl | exact .inr rfl)⟩) (pi_list (pv 5))
        (fun σ h => by rw [List.length_set]; exact h) (wipeOk "other" _ rfl rfl (lookAll (by decide +kernel)) trivial)
        (fun A' s' H' code fp hA hf => ⟨pg_name (i := 8) sc_clash_list.nd rfl (Or.inl rfl) (Or.inr rfl),
          (pe_cmpR (show OpR _ _ (rInD K) from op_inD (hu65 hA)) (pv 8) (pv 7) rfl)⟩)
        (fun _ => rfl)))))) (pss_one (ps_expr (pe_bm PySem.F.plainAttrs_list PySem.F.slot_list_append PySem.F.type_list_append mt_append (pv 5) (pa_cons (pv 6) pa_nil)))) pss_nil))))
      (pss_cons (ps_if (pt_not (pt_truth (pv 5) (by intro _; rfl))) (pss_one (ps_ret (pe_lst (pa_cons (pe_lst pa_nil) pa_nil)))) pss_nil)
      (pss_one (ps_ret (pe_lc (own := [("word", 6)]) (g := (gName 6)) (tt := tYes) rfl sc_clash_list.nd (pi_list (pv 5)) (blkOk_by (N := ["letters", "outs", "log", "endings", "order", "chosen", "word", "clashing", "other"]) (sc := defScope s_clash_list) (by decide +kernel)) (fun _ _ _ _ _ => (pg_name (i := 6) sc_clash_list.nd rfl (Or.inl rfl))) (fun _ _ _ _ _ => pts_nil) (fun _ _ _ _ _ => (pe_callTy (r := rLof K) (T := "list") call_lof (by rfl) T.n_list (by decide +kernel) (pa_cons (pv 6) pa_nil)))))))))))), ?_⟩
    obtain ⟨L, O, l, log, rfl, hl, cl, inR, t, fin⟩ := h
    have q1 : P1 ∈ [P1, P2, P3] := by simp
    have q2 : P2 ∈ [P1, P2, P3] := by simp
    have q3 : P3 ∈ [P1, P2, P3] := by simp
    have l30 := inR.2.2.1
    have lw : ∀ r ∈ log, r.1.length ≤ 10 := fun r hr => (inR.2.2.2 r hr).1.2
    refine ⟨_, rfl, _, rfl, _, rfl, L, O, l, log, rfl, hl, t _ q1, fun H1 k1 => ⟨fun z => absurd inR z, fun _ z => absurd cl z, fun _ _ => ?_⟩⟩
    have k01 : KL [P1, P2, P3] H H1 := (KL.refl t).kp q1 k1
    have t1 := k01.tab
    have hl1 : LogAt H1 l log := hl.kp (t _ q1) k1
    refine ⟨_, rfl, l, log, rfl, hl1, cl, l30, lw, fun H2 e W s2 he at2 fr ok2 lW lT => ?_⟩
    refine ⟨_, rfl, ?_⟩
    refine sort_words (ws := W.map fun x => x.1) at2.top (by rw [List.map_map, List.map_map]; rfl) ok2.keys fun H3 p ts bs s3 hp ep lt hts pm asc => ?_
    have memW : ∀ b, b ∈ bs ↔ BL log b := fun b => by
      rw [pm.mem_iff, ← ok2.has b, List.mem_map]
    have lbs : bs.length ≤ 331 := by
      have := pm.length_eq
      rw [List.length_map] at this
      omega
    have rt : Rel IT H3 ts bs := ⟨lt, hts⟩
    have at3 := at2.same s3
    have k03 := k01.same (s2.trans s3)
    have t3 := k03.tab
    have cc : ∀ u v, contraB (tailsOf W u) (tailsOf W v) = true ↔ Cls log u v := fun u v => contra_iff cl (fun t o => tails_iff ok2) (fun t o => tails_iff ok2)
    generalize hc : (fun u v => contraB (tailsOf W u) (tailsOf W v)) = c at *
    have cc : ∀ u v, c u v = true ↔ Cls log u v := fun u v => by rw [← hc]; exact cc u v
    have ce : ∀ u v, contraB (tailsOf W u) (tailsOf W v) = c u v := fun u v => by rw [← hc]
    have got : ∀ {H' : Hp} {kb : Addr} {u : List Int}, KL [P1, P2, P3] H3 H' → IT H' kb u → u ∈ bs → ∃ d, DGet H' e (.ref kb) (some (.ref d)) ∧ H' d = some (.dT (kvsO (tailsOf W u))) := fun {H' kb u} k ek hu => by
      have hu : u ∈ W.map fun x => x.1 := pm.mem_iff.1 hu
      have tp := k.keep _ _ (t3.ne at3.top (fun _ z => by cases z)) at3.top
      have dg : DGet H' e (.ref kb) ((valE W u).map fun x => V.ref x.2.1) := by
        rw [← valE_eq]
        exact DGet.t tp (by rw [keyW_V]; exact ek)
      cases hv : valE W u with
      | none =>
        obtain ⟨x, hx, e1⟩ := List.mem_map.1 hu
        exact absurd e1 (valE_none hv x hx)
      | some x =>
        rw [hv] at dg
        have hs := at3.sub x (valE_some hv).1
        exact ⟨x.2.1, dg, by unfold tailsOf; rw [hv]; exact k.keep _ _ (t3.ne hs (fun _ z => by cases z)) hs⟩
    refine ⟨(by show 0 ≤ sizeLine; decide), fun D hD => ?_⟩
    have kD := fun o => (KL.refl t3).set (o := o) t3 hD
    refine ⟨_, rfl, p, rfl, ⟨_, SqL.of ((kD (.lst [])).lst t3 ep)⟩, ?_⟩
    have kit : ∀ {H' : Hp} {us : List Addr} {xs : List (List Int)} {H0 : Hp}, TL [P1, P2, P3] H0 → KL [P1, P2, P3] H0 H' → Rel IT H0 us xs → Rel IT H' us xs := fun t0 k r => Rel.imp r fun _ _ h => k.tup t0 h
    refine for_it walk_list (fun i σ H' => ∃ (v6 v7 v8 : Option V) (cs : List Addr), σ = [some (.int L), some (.int O), some (.ref l), some (.ref e), some (.ref p), some (.ref D), v6, v7, v8] ∧ KL [P1, P2, P3] H3 H' ∧ H' D = some (.lst (cs.map V.ref)) ∧ Rel IT H' cs (chG c bs i)) ⟨_, _, _, [], rfl, kD _, upd_same, Rel.nil⟩ (fun i σ H' _ ⟨_, _, _, _, _, k, _⟩ => SqL.of (k.lst t3 ep)) ?_ ?_
    · rintro i x σ H5x H5 hi ⟨v6, v7, v8, cs, rfl, k5, e5, r5⟩ ⟨rfl, hx⟩
      obtain ⟨tb, htb, rfl⟩ := ofV hx
      obtain ⟨b, eb, hb⟩ := rt.to htb
      have hib : i ≤ bs.length := by
        have := (List.getElem?_eq_some_iff.1 eb).1
        omega
      have mb := List.mem_of_getElem? eb
      have t5 := k5.tab
      have hb5 := k5.tup t3 hb
      have chin : ∀ u ∈ chG c bs i, u ∈ bs := fun u hu => List.mem_of_mem_take ((gi c bs i hib).sub.subset hu)
      have lch : (chG c bs i).length ≤ 331 := by
        have := (gi c bs i hib).sub.length_le
        rw [List.length_take] at this
        omega
      refine ⟨_, rfl, p, rfl, ⟨_, SqL.of (k5.lst t3 ep)⟩, fun D2 hD2 => ?_⟩
      have kD2 := fun o => (KL.refl t5).set (o := o) t5 hD2
      refine it_any walk_list (fun j H' => KL [P1, P2, P3] H5 H' ∧ ∃ ks : List Addr, H' D2 = some (.lst (ks.map V.ref)) ∧ Rel IT H' ks ((bs.take j).filter fun u => c b u)) ⟨kD2 _, [], upd_same, Rel.nil⟩ (fun j H' _ z => SqL.of ((k5.trans z.1).lst t3 ep)) ?_ ?_
      · rintro j y H6x H6 hj ⟨k6, ks, e6, r6⟩ ⟨rfl, hy⟩
        obtain ⟨tu, htu, rfl⟩ := ofV hy
        obtain ⟨u, eu, hu⟩ := rt.to htu
        have mu := List.mem_of_getElem? eu
        have k36 := k5.trans k6
        have hu6 := k36.tup t3 hu
        have hb6 := k36.tup t3 hb
        have t6 := k36.tab
        obtain ⟨d1, dg1, h1⟩ := got k36 hb6 mb
        obtain ⟨d2, dg2, h2⟩ := got k36 hu6 mu
        refine ⟨rfl, _, rfl, _, rfl, e, _, rfl, dg1, ?_⟩
        refine ⟨_, rfl, _, rfl, e, _, rfl, dg2, ?_⟩
        refine ⟨d1, d2, _, _, rfl, h1, h2, t6 _ q2, fun H7 k7 => ?_⟩
        rw [ce]
        have k67 : KL [P1, P2, P3] H6 H7 := (KL.refl t6).kp q2 k7
        have sn : (bs.take (j + 1)).filter (fun u => c b u) = (bs.take j).filter (fun u => c b u) ++ (if c b u = true then [u] else []) := by
          rw [take_more eu, List.filter_append, List.filter_cons, List.filter_nil]
        have e7 := k67.lst t6 e6
        have r7 := kit t6 k67 r6
        have lks : ks.length ≤ 331 := by
          rw [r6.1]
          exact Nat.le_trans (List.length_filter_le ..) (by rw [List.length_take]; omega)
        cases hq : c b u with
        | true =>
          rw [hq] at sn
          refine ⟨_, rfl, ifDT rfl ⟨_, rfl, _, e7, Nat.lt_of_le_of_lt (by rw [List.length_map]; omega : _ ≤ 1000) (by decide), ?_⟩⟩
          refine ⟨(k6.trans k67).set t5 hD2, ks ++ [tu], by rw [upd_same, List.map_append]; rfl, ?_⟩
          rw [sn, if_pos rfl]
          have ne : ∀ {a : Addr} {w : List Int}, IT H7 a w → IT (upd H7 D2 (.lst (ks.map V.ref ++ [.ref tu]))) a w := fun {a w} h => (upd_ne fun z => by
            have h : H7 a = some (.tup (w.map V.int)) := h
            rw [z, e7] at h
            cases h).trans h
          exact Rel.push (Rel.imp r7 fun _ _ => ne) (ne (k67.tup t6 hu6))
        | false =>
          rw [hq] at sn
          refine ⟨_, rfl, ifDF rfl ⟨k6.trans k67, ks, e7, ?_⟩⟩
          rw [sn, if_neg (by decide), List.append_nil]
          exact r7
      rintro H6 ⟨k6, ks, e6, r6⟩
      rw [List.length_map, lt, List.take_length] at r6
      have k36 := k5.trans k6
      have t6 := k36.tab
      have e5D := k6.lst t5 e5
      have r5D := kit t5 k6 r5
      have f6 : ∀ u ∈ chG c bs i, decide (u ∈ bs.filter fun u => c b u) = c b u := fun u hu => by
        cases h : c b u with
        | true => exact decide_eq_true (List.mem_filter.2 ⟨chin u hu, h⟩)
        | false => exact decide_eq_false fun z => by have := (List.mem_filter.1 z).2; rw [h] at this; cases this
      have kse : (ks.map V.ref).isEmpty = !(bs.any (c b)) := by
        cases h : bs.any (c b) with
        | false =>
          have e0 : (bs.filter fun u => c b u) = [] := List.filter_eq_nil_iff.2 fun u hu => List.any_eq_false.1 h u hu
          rw [e0] at r6
          have := r6.1
          have : ks = [] := List.length_eq_zero_iff.1 this
          rw [this]
          rfl
        | true =>
          obtain ⟨u, hu, cu⟩ := List.any_eq_true.1 h
          have hm : u ∈ bs.filter fun u => c b u := List.mem_filter.2 ⟨hu, cu⟩
          have lp := List.length_pos_of_mem hm
          rw [← r6.1] at lp
          match ks, lp with
          | _ :: _, _ => rfl
      have done : ∀ {v6 v7 v8 : Option V} {H' : Hp}, KL [P1, P2, P3] H6 H' → chG c bs (i + 1) = chG c bs i → ∃ (w6 w7 w8 : Option V) (cs : List Addr), [some (.int L), some (.int O), some (.ref l), some (.ref e), some (.ref p), some (.ref D), v6, v7, v8] = [some (.int L), some (.int O), some (.ref l), some (.ref e), some (.ref p), some (.ref D), w6, w7, w8] ∧ KL [P1, P2, P3] H3 H' ∧ H' D = some (.lst (cs.map V.ref)) ∧ Rel IT H' cs (chG c bs (i + 1)) := fun k q => ⟨_, _, _, cs, rfl, k36.trans k, k.lst t6 e5D, by rw [q]; exact kit t6 k r5D⟩
      have sg := chG_succ (c := c) eb
      refine ⟨_, rfl, _, .inl ⟨_, SqL.of e6, rfl⟩, ?_⟩
      rw [kse]
      cases ha : bs.any (c b) with
      | false =>
        refine ifDF rfl (ifDF rfl (done (KL.refl t6) ?_))
        rw [sg]
        unfold stepG
        rw [ha]
        rfl
      | true =>
        refine ifDT rfl ⟨_, rfl, D, rfl, ⟨_, SqL.of e5D⟩, t6 _ q3, fun H7 tb7 => ⟨fun j σ1 H' => ∃ v8' : Option V, σ1 = [some (.int L), some (.int O), some (.ref l), some (.ref e), some (.ref p), some (.ref D), some (.ref tb), some (.ref D2), v8'] ∧ KL [P1, P2, P3] H6 H' ∧ ((chG c bs i).take j).all (c b) = true, cs.length, ⟨none, rfl, (KL.refl t6).kp q3 (Kp.ofTabbed tb7), rfl⟩, ?_, ?_⟩⟩
        · rintro j σ1 H8 hj ⟨v8', rfl, k8, al⟩
          have lt8 : j < (chG c bs i).length := by rw [← r5.1]; exact hj
          have eu := List.getElem?_eq_getElem lt8
          have ec := List.getElem?_eq_getElem hj
          generalize (chG c bs i)[j] = u at eu
          have hu8 := (kit t6 k8 r5D).2 j _ u ec eu
          generalize cs[j] = tu at ec hu8
          have hx : (cs.map V.ref)[j]? = some (V.ref tu) := by rw [List.getElem?_map, ec]; rfl
          have eD8 := k8.lst t6 e5D
          refine ⟨⟨_, _, SqL.of eD8, hx⟩, fun y H9 yl => ?_⟩
          obtain ⟨rfl, yl⟩ := yl
          have yl := yl _ (SqL.of eD8)
          rw [hx] at yl
          cases yl
          have sn : ((chG c bs i).take (j + 1)).all (c b) = c b u := by
            rw [take_more eu, List.all_append, al]
            simp
          refine ⟨_, rfl, _, rfl, dRow u, (bs.filter fun u => c b u).map dRow, .tup (SqT.of hu8) (dp_ints u), .lst (SqL.of (k8.lst t6 e6)) (dp_tups (kit t6 k8 r6)), shaped_tup u, shaped_tups _, ?_⟩
          rw [any_tups, f6 u (List.mem_of_getElem? eu)]
          refine ⟨_, rfl, fun q => ?_, fun q => ⟨_, rfl, k8, sn.trans q⟩⟩
          refine ⟨_, rfl, ifDF rfl (done k8 ?_)⟩
          rw [sg]
          unfold stepG
          rw [if_neg]
          rw [Bool.and_eq_true]
          intro z
          have := List.all_eq_true.1 z.2 u (List.mem_of_getElem? eu)
          rw [q] at this
          cases this
        · rintro σ1 H8 ⟨v8', rfl, k8, al⟩
          rw [r5.1, List.take_length] at al
          have eD8 := k8.lst t6 e5D
          refine ⟨⟨_, SqL.of eD8, by rw [List.length_map]; exact Nat.le_refl _⟩, _, rfl, ifDT rfl ?_⟩
          have lcs : cs.length ≤ 331 := by rw [r5.1]; exact lch
          refine ⟨_, rfl, .inl ⟨rfl, _, SqL.of eD8⟩, _, rfl, D, _, _, rfl, rfl, eD8, Nat.lt_of_le_of_lt (by rw [List.length_map]; omega : _ ≤ 1000) (by decide), ?_⟩
          refine ⟨_, _, _, cs ++ [tb], rfl, (k36.trans k8).set t3 hD, by rw [upd_same, List.map_append]; rfl, ?_⟩
          have ne : ∀ {a : Addr} {w : List Int}, IT H8 a w → IT (upd H8 D (.lst (cs.map V.ref ++ [.ref tb]))) a w := fun {a w} h => (upd_ne fun z => by
            have h : H8 a = some (.tup (w.map V.int)) := h
            rw [z, eD8] at h
            cases h).trans h
          rw [sg]
          unfold stepG
          rw [if_pos (by rw [ha, al]; rfl)]
          exact Rel.push (Rel.imp (kit t6 k8 r5D) fun _ _ => ne) (ne ((k36.trans k8).tup t3 hb))
    rintro σ H5 ⟨v6, v7, v8, cs, rfl, k5, e5, r5⟩
    rw [List.length_map, lt] at r5
    have gl := good_list (c := c) (bs := bs) cc cl ((memW []).2 (.inl rfl))
    have t5 := k5.tab
    have k05 := k03.trans k5
    have gx := gi c bs bs.length (Nat.le_refl _)
    dsimp only
    have lch : (chG c bs bs.length).length ≤ 331 := by
      have := gx.sub.length_le
      rw [List.take_length] at this
      omega
    by_cases hch : chG c bs bs.length = []
    · rw [if_pos hch] at gl
      have hcs : cs = [] := List.length_eq_zero_iff.1 (by rw [r5.1, hch]; rfl)
      subst hcs
      refine ⟨_, rfl, _, .inl ⟨_, SqL.of e5, rfl⟩, ifDT rfl ?_⟩
      refine ⟨(by show 0 ≤ sizeLine; decide), fun z hz => ?_⟩
      have s6 := same_upd (o := .lst []) (Same.refl H5) hz
      have ez : (upd H5 z (.lst [])) z = some (.lst (([] : List Int).map V.int)) := upd_same
      generalize upd H5 z (.lst []) = H6 at *
      refine ⟨(by show 1 ≤ sizeLine; decide), fun q hq => ?_⟩
      have s7 := same_upd (o := .lst [.ref z]) (Same.refl H6) hq
      have k06 := k05.same s6
      refine fin _ q [[]] bs (k06.same s7) (KL.free k06 hq) ⟨[z], upd_same, ⟨rfl, fun i a u h1 h2 => ?_⟩, fun a ha => ?_⟩ memW asc gl
      · match i, h1, h2 with
        | 0, h1, h2 =>
          cases h1
          cases h2
          exact s7 _ _ ez
      · rw [List.mem_singleton.1 ha]
        exact ⟨KL.free k05 hz, fun y => by rw [← y, ez] at hq; cases hq⟩
    · rw [if_neg hch] at gl
      have hne : (cs.map V.ref).isEmpty = false := by
        match cs, r5.1 with
        | [], h => exact absurd (List.length_eq_zero_iff.1 h.symm) hch
        | _ :: _, _ => rfl
      refine ⟨_, rfl, _, .inl ⟨_, SqL.of e5, rfl⟩, ?_⟩
      rw [hne]
      refine ifDF rfl ?_
      refine ⟨_, rfl, D, rfl, ⟨_, SqL.of e5⟩, fun D2 hD2 => ?_⟩
      have memc : ∀ u ∈ chG c bs bs.length, u.length ≤ 10 := fun u hu => by
        have hu := gx.sub.subset hu
        rw [List.take_length] at hu
        rcases (memW u).1 hu with z | ⟨r, hr, h⟩
        · rw [z]; exact Nat.zero_le _
        · have := h.length_le
          have := lw r hr
          omega
      refine it_any walk_list (fun i H' => Same H5 H' ∧ LLn H H' D2 ((chG c bs bs.length).take i)) ⟨same_upd (Same.refl _) hD2, [], upd_same, ⟨rfl, fun i a w h1 _ => by cases h1⟩, fun a ha => absurd ha (by simp)⟩ (fun i H' _ z => SqL.of (z.1 _ _ e5)) ?_ ?_
      · rintro i x H6x H6 hi ⟨s6, l6⟩ ⟨rfl, hx⟩
        obtain ⟨tu, htu, rfl⟩ := ofV hx
        obtain ⟨u, eu, hu⟩ := r5.to htu
        have hu6 : H6 tu = some (.tup (u.map V.int)) := s6 _ _ hu
        refine ⟨rfl, _, rfl, tu, _, rfl, .inr (SqT.of hu6), fun y hy => ?_⟩
        have s7 := same_upd (o := .lst (u.map V.int)) (Same.refl H6) hy
        have ey : (upd H6 y (.lst (u.map V.int))) y = some (.lst (u.map V.int)) := upd_same
        have nD : y ≠ D2 := fun z => by
          obtain ⟨us, e, _⟩ := l6
          rw [z, e] at hy
          cases hy
        have fy : H y = none := KL.free (k05.same s6) hy
        generalize upd H6 y (.lst (u.map V.int)) = H7 at *
        obtain ⟨acc, ea, la, l8⟩ := (l6.same s7).push fy nD ey
        refine ⟨acc, ea, Nat.lt_of_le_of_lt (by rw [la, List.length_take]; omega : acc.length ≤ 1000) (by decide), same_set (s6.trans s7) hD2, ?_⟩
        rw [take_more eu]
        exact l8
      · rintro H6 ⟨s6, l6⟩
        rw [List.length_map, r5.1, List.take_length] at l6
        exact fin H6 D2 _ bs (k05.same s6) (KL.free k05 hD2) l6 memW asc gl
end
end K42

set_option Elab.async false
set_option linter.all false
set_option maxRecDepth 100000
set_option maxHeartbeats 4000000
/-! try: .. except A as e: .. except B as e: .. -/
namespace Mz
open PySem PySem.Spec PyProof.Rows L2 L2N
section
variable {X : Cx} {x x2 n : Str} {c c2 : Value} {i : Nat} {body suite suite2 : List Stmt} {b₀ b2₀ : Stmt} {np np2 pos pos' pos2 : Pos} {tb : WX → L2.TS} {ts ts2 : Addr → Value → Option Addr → L2.TS} {Wout : WX}
theorem ps_try_as_two (stk : X.stack = X.env :: X.outer) (own : X.env.frame = some X.env.locals) (nod : X.N.Nodup) (slot : X.N[i]? = some n) (loc : X.env.kindOf n = some .local) (nm : Names X x c) (nm2 : Names X x2 c2) (out : L2N.Takes X Wout)
    (hbody : ∀ (W : WX) (pn : List (Addr × Obj)) (xe : Value → Shared → Prop), L2N.Takes (X.tr pn xe) W → PassesOwn (model X.prog X.w) X.A X.env xe → PSs (X.tr pn xe) body (tb W))
    (hfirst : ∀ (a : Addr) (oe : Obj) (cls : Value) (d : Option Addr) (pn : List (Addr × Obj)), Zn cls d oe → (∃ vs, oe.data = .fields vs) → PSs (X.suite a ((a, oe) :: pn)) (b₀ :: suite) (ts a cls d))
    (hsecond : ∀ (a : Addr) (oe : Obj) (cls : Value) (d : Option Addr) (pn : List (Addr × Obj)), Zn cls d oe → (∃ vs, oe.data = .fields vs) → PSs (X.suite a ((a, oe) :: pn)) (b2₀ :: suite2) (ts2 a cls d)) : PS X (.Try body (.ExceptHandler (some (.Name x np)) (some n) (b₀ :: suite) pos' :: [.ExceptHandler (some (.Name x2 np2)) (some n) (b2₀ :: suite2) pos2]) [] [] pos) (fun D σ H => tb (wAs X.K c i ts (wAs X.K c2 i ts2 Wout D) D) D σ H) := by
  refine ⟨fun pins s0 σ0 H0 D I0 start => ?_⟩
  have ok := I0.ok
  have frm : X.A.frames = some (X.env :: X.outer) := ok.frames.trans (congrArg some stk)
  refine wpAny_Try_except (wpAny_mono ((hbody (wAs X.K c i ts (wAs X.K c2 i ts2 Wout D) D) (X.pn ++ pins) (fun e t1 => wpAny (model X.prog X.w) X.A (noteFrame e X.env) (fun _ t2 => wpAny (model X.prog X.w) X.A (setFlight e none) (fun _ t3 =>
    wpAny (model X.prog X.w) X.A (handleBy e X.env (.ExceptHandler (some (.Name x np)) (some n) (b₀ :: suite) pos' :: [.ExceptHandler (some (.Name x2 np2)) (some n) (b2₀ :: suite2) pos2])) (SP X pins D) X.xe t3) X.xe t2) X.xe t1) (fun u t caught => ?_) PassesOwn.looking).run [] s0 σ0 H0 D (I0.toTry _) start) (fun fl t z => ?_) (fun _ _ e => e))
  · obtain ⟨a, B, tI, pins1, σ1, G1, cls, d, rfl, J1, nb, up, inSky, free, os, ag, b, hit, yes, no⟩ := caught
    have J : Inv X pins σ1 G1 tI := J1.ofTry ok
    refine Sky.land Zn.steady frm own (by rw [← stk]; exact inSky) fun g down up2 => ?_
    have JL : Inv X pins σ1 G1 { t with heap := g } := J.landed nb down.1 (up.trans up2) os ag
    obtain ⟨oe, vs, at_, zn, dat⟩ := down.there
    have out1 : a ∉ frs (X.env :: X.outer) := fun hm => by
      obtain ⟨_, o2, e2, z2⟩ := down.2.2.1.mem hm
      rw [at_] at e2
      cases e2
      exact z2 _ dat
    have notL : a ≠ X.env.locals := fun z => out1 (List.mem_filterMap.mpr ⟨X.env, List.mem_cons_self, by rw [own, z]⟩)
    have notF : a ∉ X.fs := fun hm => (List.mem_filterMap.mp hm).elim fun e q => out1 (List.mem_filterMap.mpr ⟨e, List.mem_cons_of_mem _ q.1, q.2⟩)
    have JS := JL.suite at_ dat free notL notF
    have ask : ∀ {y : Str} {k : Value} {q : Pos} {R : Value → Shared → Prop} {E : Value → Shared → Prop}, Names X y k → R k { t with heap := g } → wpAny (model X.prog X.w) (X.A.mark (some (.ref a))) (eval (.Name y q) X.env) R E { t with heap := g } := fun {y k q R E} nk r => by
      obtain ⟨g1, g2, g3 | ⟨g3, g4, g5⟩⟩ := nk
      · exact ld_glob (X := X.suite a ((a, oe) :: (X.pn ++ pins))) JS g1 g3 r g2
      · exact ld_blt (X := X.suite a ((a, oe) :: (X.pn ++ pins))) JS g1 g3 g4 r g5 g2
    have kind : PySem.W.Looks (model X.prog X.w) g (typeOf (.ref a)) cls := fun _ _ _ _ kp r => wpAny_typeOf_ref (kp _ _ at_) (zn.1.symm ▸ r)
    -- the second
    have behind : wAs X.K c2 i ts2 Wout D cls d σ1 G1 → wpAny (model X.prog X.w) X.A (handleBy (.ref a) X.env [.ExceptHandler (some (.Name x2 np2)) (some n) (b2₀ :: suite2) pos2]) (SP X pins D) X.xe { t with heap := g } := by
      rintro ⟨b2, hit2, yes2, no2⟩
      refine wpAny_handleBy_cons (codeAny_handlers_test (ask nm2 ((PySem.W.exm_one (M := model X.prog X.w) JL.kIn kind hit2).here ?_))) (by intro q; cases q)
      cases b2 with
      | false =>
        show wpAny _ X.A (handleBy (.ref a) X.env []) _ _ _
        have w := no2 rfl
        obtain ⟨_, _, _, oe1, vs1, T, oT, ts1, e1, _, e3, e4, _⟩ := id down
        refine wpAny_handleBy_nil ?_
        unfold PySem.passOn
        refine wpAny_bind (wpAny_field e1 e3 e4 ?_)
        rw [if_neg (by simp : ¬ ((Value.ref T == Value.none) = true))]
        have go : wpAny (model X.prog X.w) X.A (setFlight (.ref a) X.env.frame) (fun _ t4 => wpAny (model X.prog X.w) X.A (throw (.ref a) : Sem Flow) (SP X pins D) X.xe t4) X.xe { t with heap := g } := by
          rw [own]
          exact HandSPX.setFlight_upZ down fun g4 sky4 up4 => wpAny_throw (out _ _ ⟨a, B, tI, pins, σ1, G1, cls, d, rfl, J, nb, (up.trans up2).trans up4, .inr (.inr (by rw [stk]; exact sky4)), free, os, ag, w⟩)
        first
          | exact wpAny_bind (wpAny_pure (wpAny_bind go))
          | exact wpAny_bind go
      | true =>
        refine codeAny_handlers_suite_as (HandSPX.lands_againZ down fun g4 down4 up4 => ?_)
        obtain ⟨oe4, vs4, at4, zn4, dat4⟩ := down4.there
        have J4 : Inv X pins σ1 G1 { t with heap := g4 } := J.landed nb down4.1 ((up.trans up2).trans up4) os ag
        refine store_ok (X := X.suite a ((a, oe4) :: (X.pn ++ pins))) (v := .ref a) (J4.suite at4 dat4 free notL notF) nod slot (.inl loc) rfl (fun t5 J5 => ?_) (.inr loc)
        refine wpAny_mono ((hsecond a oe4 cls d (X.pn ++ pins) zn4 ⟨_, dat4⟩).run [] t5 _ G1 _ J5 (yes2 rfl a free)) (fun fl t6 z => ?_) fun _ _ z => z.elim
        have unbind : ∀ {σ6 : L2.St} {G6 : Hp} {R : Shared → Prop}, Inv (X.suite a ((a, oe4) :: (X.pn ++ pins))) [] σ6 G6 t6 → (∀ t7, Inv X pins (σ6.set i none) G6 t7 → R t7) → wpAny (model X.prog X.w) X.A (do bindName X.env n .none; unbindBehindTheSuite X.env n pos2) (fun _ t7 => R t7) X.xe t6 :=
          fun J6 r => gone_ok (J6.unsuite ok) nod slot loc r
        cases fl with
        | next => exact (let ⟨σ6, G6, J6, q⟩ := z; unbind J6 fun t7 J7 => ⟨_, _, J7, q⟩)
        | brk => exact (let ⟨σ6, G6, J6, q⟩ := z; unbind J6 fun t7 J7 => ⟨_, _, J7, q⟩)
        | cont => exact (let ⟨σ6, G6, J6, q⟩ := z; unbind J6 fun t7 J7 => ⟨_, _, J7, q⟩)
        | ret u => exact (let ⟨v, σ6, G6, J6, r, q⟩ := z; unbind J6 fun t7 J7 => ⟨_, _, _, J7, r, q⟩)
    refine wpAny_handleBy_cons (codeAny_handlers_test (ask nm ((PySem.W.exm_one (M := model X.prog X.w) JL.kIn kind hit).here ?_))) (by intro q; cases q)
    cases b with
    | false =>
      show wpAny _ X.A (handleBy (.ref a) X.env [.ExceptHandler (some (.Name x2 np2)) (some n) (b2₀ :: suite2) pos2]) _ _ _
      exact behind (no rfl)
    | true =>
      refine codeAny_handlers_suite_as (HandSPX.lands_againZ down fun g4 down4 up4 => ?_)
      obtain ⟨oe4, vs4, at4, zn4, dat4⟩ := down4.there
      have J4 : Inv X pins σ1 G1 { t with heap := g4 } := J.landed nb down4.1 ((up.trans up2).trans up4) os ag
      refine store_ok (X := X.suite a ((a, oe4) :: (X.pn ++ pins))) (v := .ref a) (J4.suite at4 dat4 free notL notF) nod slot (.inl loc) rfl (fun t5 J5 => ?_) (.inr loc)
      refine wpAny_mono ((hfirst a oe4 cls d (X.pn ++ pins) zn4 ⟨_, dat4⟩).run [] t5 _ G1 _ J5 (yes rfl a free)) (fun fl t6 z => ?_) fun _ _ z => z.elim
      have unbind : ∀ {σ6 : L2.St} {G6 : Hp} {R : Shared → Prop}, Inv (X.suite a ((a, oe4) :: (X.pn ++ pins))) [] σ6 G6 t6 → (∀ t7, Inv X pins (σ6.set i none) G6 t7 → R t7) → wpAny (model X.prog X.w) X.A (do bindName X.env n .none; unbindBehindTheSuite X.env n pos') (fun _ t7 => R t7) X.xe t6 :=
        fun J6 r => gone_ok (J6.unsuite ok) nod slot loc r
      cases fl with
      | next => exact (let ⟨σ6, G6, J6, q⟩ := z; unbind J6 fun t7 J7 => ⟨_, _, J7, q⟩)
      | brk => exact (let ⟨σ6, G6, J6, q⟩ := z; unbind J6 fun t7 J7 => ⟨_, _, J7, q⟩)
      | cont => exact (let ⟨σ6, G6, J6, q⟩ := z; unbind J6 fun t7 J7 => ⟨_, _, J7, q⟩)
      | ret u => exact (let ⟨v, σ6, G6, J6, r, q⟩ := z; unbind J6 fun t7 J7 => ⟨_, _, _, J7, r, q⟩)
  · cases fl with
    | next => exact wpAny_execs_nil (let ⟨σ1, G1, J, q⟩ := z; ⟨σ1, G1, J.ofTry ok, q⟩)
    | brk => exact (let ⟨σ1, G1, J, q⟩ := z; ⟨σ1, G1, J.ofTry ok, q⟩)
    | cont => exact (let ⟨σ1, G1, J, q⟩ := z; ⟨σ1, G1, J.ofTry ok, q⟩)
    | ret u => exact (let ⟨v, σ1, G1, J, r, q⟩ := z; ⟨v, σ1, G1, J.ofTry ok, r, q⟩)
end
end Mz

set_option Elab.async false
set_option linter.all false
set_option maxRecDepth 100000
set_option maxHeartbeats 4000000
/-! sorted(xs): the items data of any depth -/
namespace Mz
open PySem PySem.Spec PyProof.Rows L2 PySem.W
theorem each_zip {h : Heap} : ∀ {xs : List V} {vs : List Value} {kz : List PyData}, xs.length = kz.length → EachIs (fun v d => ∃ as, Reads h v d as) vs kz → EachIs (fun v (x : V × PyData) => ∃ as, Reads h v x.2 as) vs (xs.zip kz) := by
  intro xs
  induction xs with
  | nil =>
    intro vs kz l e
    cases kz with
    | nil => cases e; exact .nil
    | cons => cases l
  | cons x xs ih =>
    intro vs kz l e
    cases kz with
    | nil => cases l
    | cons k kz =>
      cases e with
      | cons a b => exact .cons a (ih (by simpa using l) b)
def rSortD (K : PySem.W.Frag) : List V → Hp → VK → Prop := fun vs H Q => ∃ (a : Addr) (xs : List V) (kz : List PyData), vs = [.ref a] ∧ SqL K H a xs ∧ DpAll K H xs kz ∧ AllAlike kz ∧ Sortable kz ∧ (∀ d ∈ kz, d.depth ≤ 60) ∧
  ∀ p, H p = none → Q (.ref p) (upd H p (.lst (byKeys xs kz)))
theorem cr_sortD {X : Cx} (hu : X.A.units + 64 < cLine) : CallR X (.builtin "sorted") (rSortD X.K) := by
  intro pins s σ H vs us Q I r h
  obtain ⟨a, xs, kz, rfl, hs, dp, al, so, de, q⟩ := h
  obtain ⟨its, rv, hl, hz⟩ := I.list hs
  rw [Vals.ref1 r]
  have lk := dpAll_len dp
  obtain ⟨as, hr⟩ := Dp.readsAll I _ _ its dp rv
  have e1 := vals_zip rv lk
  have e2 := each_zip (xs := xs) lk (readsAll_is hr)
  have em := map_snd_zip lk
  refine sorted_data (enc := Prod.snd) (bs := xs.zip kz) (vs := its) (R := fun v (x : V × PyData) => RelV x.1 v) hl.isList e1 e2 (by rw [em]; exact al) (by rw [em]; exact so) (by rw [List.length_zip]; omega) (fun b hb => ?_) fun out lo eo => ?_
  · have := de b.2 (by rw [← em]; exact List.mem_map.mpr ⟨b, hb, rfl⟩)
    omega
  · obtain ⟨ep, he'⟩ := PyProof.Rows.sortedAll_at s.heap its out.toArray
    have ev := each_vals eo
    have hlen : (byKeys xs kz).length ≤ sizeLine := by
      unfold byKeys
      rw [List.length_map, List.length_mergeSort, List.length_zip]
      omega
    refine ⟨.ref _, upd H (s.heap.objs.size + 1) (.lst (byKeys xs kz)), I.laid (t' := s.toks) (fun _ _ => PyProof.Rows.sortedAll_old) (Nat.le_succ _) ⟨hlen, out, ep, ev, he'⟩, rfl, q _ (I.hok.fresh (Nat.le_succ _))⟩
end Mz

set_option Elab.async false
set_option linter.all false
set_option maxRecDepth 100000
set_option maxHeartbeats 4000000
namespace K42
open PySem PySem.Spec PyProof.Rows L2 Mz
theorem ifJoin {c : Bool} {A : Prop} {D : Ends} {σ : L2.St} {H : Hp} (Mid : L2.St → Hp → Prop) (h1 : c = true → (∀ σ' H', Mid σ' H' → D.nx σ' H') → A) (h2 : c = false → Mid σ H) (h : ∀ σ' H', Mid σ' H' → D.nx σ' H') : if c = true then A else tNext D σ H := by
  cases c with
  | true => exact (if_pos rfl).mpr (h1 rfl h)
  | false => exact h _ _ (h2 rfl)
/-- a log whose words stand elsewhere -/
def RowN (D : Addr) (H : Hp) (t : Addr) (x : List Int × Int) : Prop := ∃ a, a ≠ D ∧ H t = some (.tup [.ref a, .int x.2]) ∧ H a = some (.lst (x.1.map V.int))
def LogN (H : Hp) (D : Addr) (log : Log) : Prop := ∃ ts : List Addr, H D = some (.lst (ts.map V.ref)) ∧ Rel (RowN D) H ts log
theorem LogN.at {H : Hp} {D : Addr} {log : Log} (h : LogN H D log) : LogAt H D log := let ⟨ts, h1, h2⟩ := h; ⟨ts, h1, h2.1, fun i t x p q => let ⟨a, _, h3, h4⟩ := h2.2 i t x p q; ⟨a, h3, h4⟩⟩
theorem RowN.same {D : Addr} {H H' : Hp} {t : Addr} {x : List Int × Int} (s : Same H H') (h : RowN D H t x) : RowN D H' t x := let ⟨a, n, h1, h2⟩ := h; ⟨a, n, s _ _ h1, s _ _ h2⟩
theorem LogN.same {H H' : Hp} {D : Addr} {log : Log} (h : LogN H D log) (s : Same H H') : LogN H' D log := let ⟨ts, h1, h2⟩ := h; ⟨ts, s _ _ h1, Rel.imp h2 fun _ _ => RowN.same s⟩
theorem RowN.upd {D : Addr} {H : Hp} {t : Addr} {x : List Int × Int} {vs : List V} {o : HO} (e : H D = some (.lst vs)) (h : RowN D H t x) : RowN D (upd H D o) t x := let ⟨a, n, h1, h2⟩ := h; ⟨a, n, (upd_ne fun z => by rw [z, e] at h1; cases h1).trans h1, (upd_ne n).trans h2⟩
theorem LogN.push {H : Hp} {D t : Addr} {log : Log} {x : List Int × Int} (h : LogN H D log) (e : RowN D H t x) : ∃ acc, H D = some (.lst acc) ∧ acc.length = log.length ∧ LogN (upd H D (.lst (acc ++ [.ref t]))) D (log ++ [x]) := by
  obtain ⟨ts, h1, h2⟩ := h
  refine ⟨_, h1, (List.length_map ..).trans h2.1, ts ++ [t], by rw [upd_same, List.map_append]; rfl, ?_⟩
  exact Rel.imp (h2.push e) fun _ _ => RowN.upd h1
def spLLog (K : PySem.W.Frag) : Sp := fun vs H Q _ => ∃ (a m : Addr) (ns : List Int) (L O : Int) (M : Mach), vs = [.ref a, .int L, .int O, .ref m] ∧ SqL K H a (ns.map V.int) ∧ ns.length ≤ 63 ∧ MA H m M ∧ Good M ∧ M.ls = L ∧ M.os = O ∧ L ≤ 2 ∧
  ∀ (H' : Hp) (q : Addr) (log : Log), Same H H' → H q = none → LogN H' q log → log.length ≤ 20 → InRange L O log → Clean log → (∀ r ∈ log, r.1.length ≤ 7) → Q (.ref q) H'
section
variable {P : Program} {w : World} {K : PySem.W.Frag} {mg : Str → Option Value} {base : Heap} {A : Ads}
theorem ok_llog (T : Txt K mg A) : FnOk P w K mg base CX0 3 A.a_law_log A.d_law_log ["script", "letters", "outs", "hidden"] (spLLog K) := by
  have G_law_cell : FnOk P w K mg base CX0 1 A.a_law_cell A.d_law_cell ["script", "k"] (spCell K) := ok_cell T
  have G_law_numbers : FnOk P w K mg base CX0 1 A.a_law_numbers A.d_law_numbers ["cell", "k", "many"] spNumbers := ok_numbers T
  have G_law_output : FnOk P w K mg base CX0 2 A.a_law_output A.d_law_output ["machine", "word"] (spOutput K) := ok_output T
  refine T.F_law_log.ok sc_law_log (fun vs H Q E h => ?_) (fun cdv Ar outer s H vs Q E hr h => ?_)
  · obtain ⟨_, _, _, _, _, _, rfl, _⟩ := h
    rfl
  · have hr_law_cell : Room 1 _ := hr.mono (by decide)
    have hr_law_numbers : Room 1 _ := hr.mono (by decide)
    have hr_law_output : Room 2 _ := hr
    refine ⟨_, (pss_cons (ps_set (i := 4) sc_law_log.nd rfl (Or.inl rfl) (pe_lst pa_nil))
      (pss_cons (ps_for PassesOwn.never rfl (pi_range2 (by rfl) T.n_range (pa_cons pe_int (pa_cons (pe_callB (call_min2 rfl) (by rfl) T.n_min (by decide +kernel) (pa_cons (pe_callB call_len_seq (by rfl) T.n_len PySem.boot_len (pa_cons (pv 0) pa_nil)) (pa_cons pe_int pa_nil))) pa_nil))) (pg_name (i := 5) sc_law_log.nd rfl (Or.inl rfl))
        (pss_cons (ps_set (i := 6) sc_law_log.nd rfl (Or.inr rfl) (pe_call G_law_numbers hr_law_numbers (by rfl) T.g_law_numbers T.F_law_numbers.kp T.b_law_numbers .nil pass0 (pa_cons (pe_call G_law_cell hr_law_cell (by rfl) T.g_law_cell T.F_law_cell.kp T.b_law_cell .nil pass0 (pa_cons (pv 0) (pa_cons (pv 5) pa_nil))) (pa_cons (pv 5) (pa_cons pe_int pa_nil)))))
          (pss_cons (ps_setLc (i := 7) (own := [("j", 10)]) (g := (gName 10)) (tt := tYes) rfl sc_law_log.nd rfl rfl (sw_true rfl rfl rfl (by decide +kernel)) (pi_range1 (by rfl) T.n_range (pa_cons (pe_op op_mod (pe_callTy call_int1 (by rfl) T.n_int (by decide +kernel) (pa_cons (pe_ix (r := rIx K) ix_seq (pv 6) pe_int (fun _ _ => rfl)) pa_nil)) pe_int) pa_nil)) (blkOk_by (N := ["script", "letters", "outs", "hidden", "log", "k", "numbers", "word", "output", "row", "j"]) (sc := defScope s_law_log) (by decide +kernel)) (fun _ _ _ _ _ => (pg_name (i := 10) sc_law_log.nd rfl (Or.inl rfl))) (fun _ _ _ _ _ => pts_nil) (fun _ _ _ _ _ => (pe_op op_mod (pe_callTy (T := "int") call_int1 (by rfl) T.n_int (by decide +kernel) (pa_cons (pe_ix (r := rIx K) ix_seq (pv 6) (pv 10) (fun _ _ => rfl)) pa_nil)) (pv 1))))
          (pss_cons (ps_set (i := 8) sc_law_log.nd rfl (Or.inl rfl) (pe_call G_law_output hr_law_output (by rfl) T.g_law_output T.F_law_output.kp T.b_law_output .nil pass0 (pa_cons (pv 3) (pa_cons (pv 7) pa_nil))))
          (pss_cons (ps_if (pt_cmpR op_eq (pe_op op_mod (pe_callTy call_int1 (by rfl) T.n_int (by decide +kernel) (pa_cons (pe_ix (r := rIx K) ix_seq (pv 6) pe_int (fun _ _ => rfl)) pa_nil)) pe_int) pe_int (nomark _)) (pss_one (ps_set (i := 8) sc_law_log.nd rfl (Or.inl rfl) (pe_op op_mod (pe_op op_fdiv (pe_callTy call_int1 (by rfl) T.n_int (by decide +kernel) (pa_cons (pe_ix (r := rIx K) ix_seq (pv 6) pe_int (fun _ _ => rfl)) pa_nil)) pe_int) (pv 2)))) pss_nil)
          (pss_cons (ps_for PassesOwn.never rfl (pi_list (pv 4)) (pg_name (i := 9) sc_law_log.nd rfl (Or.inl rfl))
            (pss_one (ps_if (pt_cmpR (op_eqD hr.units) (pe_ix (r := rIx K) ix_seq (pv 9) pe_int (fun _ _ => rfl)) (pv 7) (nomark _)) (pss_one (ps_set (i := 8) sc_law_log.nd rfl (Or.inl rfl) (pe_ix (r := rIx K) ix_seq (pv 9) pe_int (fun _ _ => rfl)))) pss_nil)))
          (pss_one (ps_expr (pe_bm PySem.F.plainAttrs_list PySem.F.slot_list_append PySem.F.type_list_append mt_append (pv 4) (pa_cons (pe_tup (pa_cons (pv 7) (pa_cons (pv 8) pa_nil))) pa_nil))))))))))
      (pss_one (ps_ret (pv 4))))), ?_⟩
    obtain ⟨a, m, sc, L, O, M, rfl, ha, l63, hm, g, els, eos, L2, fin⟩ := h
    have l1 := g.l1
    have o1 := g.o1
    have o6 := g.o6
    refine ⟨Nat.zero_le _, fun D hD => ?_⟩
    have sD := same_upd (o := .lst []) (Same.refl H) hD
    have eD : (upd H D (.lst [])) D = some (.lst []) := upd_same
    generalize upd H D (.lst []) = H0 at *
    have lsc : (sc.map V.int).length = sc.length := List.length_map ..
    obtain ⟨n, en, n21⟩ : ∃ n : Nat, (n : Int) = (if (21 : Int) < ((sc.map V.int).length : Int) then 21 else ((sc.map V.int).length : Int)) ∧ n ≤ 21 := by
      split
      · exact ⟨21, rfl, Nat.le_refl _⟩
      · exact ⟨(sc.map V.int).length, rfl, by omega⟩
    refine ⟨_, rfl, a, _, rfl, .inl (same_seq sD ha), _, _, rfl, 1, (n : Int), congrArg (fun z => [V.int 1, V.int z]) en.symm, ⟨by decide, by decide, by omega, by omega⟩, ?_⟩
    refine for_range (lo := 1) (n := ((n : Int) - 1).toNat) (fun k σ H' => ∃ (v5 v6 v7 v8 v9 : Option V) (log : Log), σ = [some (.ref a), some (.int L), some (.int O), some (.ref m), some (.ref D), v5, v6, v7, v8, v9, none] ∧ Same H H' ∧ LogN H' D log ∧ log.length = k ∧ InRange L O log ∧ Clean log ∧ ∀ r ∈ log, r.1.length ≤ 7) ⟨_, _, _, _, _, [], rfl, sD, (⟨[], eD, Rel.nil⟩ : LogN H0 D []), rfl, ⟨⟨by omega, L2⟩, ⟨by omega, by omega⟩, Nat.zero_le _, fun r hr => absurd hr (by simp)⟩, fun r hr => absurd hr (by simp), fun r hr => absurd hr (by simp)⟩ ?_ ?_
    · rintro k σ H1 hk ⟨v5, v6, v7, v8, v9, log, rfl, s1, l1', ll, inR, cl, w7⟩
      dsimp only [gName, List.set]
      refine ⟨_, rfl, _, rfl, a, sc, _, rfl, same_seq s1 ha, by omega, fun z => ?_⟩
      refine ⟨_, rfl, z, _, 10, rfl, by omega, by omega, by decide, by decide, fun ns H2 p nn s2 _ ep => ?_⟩
      have s02 := s1.trans s2
      have pick : ∀ j : Int, 0 ≤ j → j < 10 → ∃ z, (0 ≤ z ∧ z < 1000) ∧ atI (ns.map V.int) j = some (.int z) := fun j j0 j1 => by
        obtain ⟨z, hz, az⟩ := atI_int (ns := ns) (i := j) j0 (by rw [nn.1]; exact j1)
        exact ⟨z, nn.2 z hz, az⟩
      obtain ⟨z6, b6, a6⟩ := pick 8 (by decide) (by decide)
      obtain ⟨z7, b7, a7⟩ := pick 9 (by decide) (by decide)
      refine ⟨_, rfl, .inl ⟨p, _, _, _, rfl, rfl, SqL.of ep, a6, .inl ⟨_, rfl, _, _, rfl, rfl, (by show (0 : Int) < 8; decide), ?_⟩⟩⟩
      dsimp only [tNil]
      have z60 := Int.emod_nonneg z6 (show (8 : Int) ≠ 0 by decide)
      have z61 := Int.emod_lt_of_pos z6 (show (0 : Int) < 8 by decide)
      refine ⟨z6 % 8, rfl, by omega, by omega, fun D2 hD2 => ?_⟩
      have sD2 := fun o => same_upd (o := o) (Same.refl H2) hD2
      refine lc_range (fun j H' => ∃ ws : List Int, H' = upd H2 D2 (.lst (ws.map V.int)) ∧ ws.length = j ∧ Lt L ws) ⟨[], rfl, rfl, fun y hy => absurd hy (by simp)⟩ ?_ ?_
      · rintro j H3 hj ⟨ws, rfl, lw, wlt⟩
        obtain ⟨y, hy, ay⟩ := atI_int (ns := ns) (i := (0 : Int) + (j : Int)) (by omega) (by rw [nn.1]; omega)
        refine ⟨rfl, ?_⟩
        refine ⟨_, rfl, _, rfl, .inl ⟨p, _, _, _, rfl, rfl, SqL.of (sD2 _ _ _ ep), ay, .inl ⟨_, rfl, _, rfl, _, _, rfl, rfl, (by show (0 : Int) < L; omega), ?_⟩⟩⟩
        have y0 := Int.emod_nonneg y (show L ≠ 0 by omega)
        have y1 := Int.emod_lt_of_pos y (show 0 < L by omega)
        refine ⟨_, upd_same, Nat.lt_of_le_of_lt (by rw [List.length_map, lw]; omega : _ ≤ 1000) (by decide), ws ++ [y % L], by rw [upd_upd, List.map_append]; rfl, by rw [List.length_append, lw]; rfl, fun u hu => ?_⟩
        rcases List.mem_append.1 hu with h | h
        · exact wlt u h
        · rw [List.mem_singleton.1 h]
          exact ⟨y0, y1⟩
      rintro H3 ⟨ws, rfl, lw, wlt⟩
      have s3 := sD2 (.lst (ws.map V.int))
      have eD2 : (upd H2 D2 (.lst (ws.map V.int))) D2 = some (.lst (ws.map V.int)) := upd_same
      have nD2 : D2 ≠ D := fun h => by
        obtain ⟨us, e, _⟩ := l1'.same s2
        rw [h, e] at hD2
        cases hD2
      generalize upd H2 D2 (.lst (ws.map V.int)) = H3 at *
      have s03 := s02.trans s3
      have wl : Lt M.ls ws := by rw [els]; exact wlt
      have hm3 : MA H3 m M := by
        obtain ⟨mv, ou, rs, hM⟩ := hm
        exact ⟨mv, ou, rs, hM.same s03⟩
      have ob := (g.outp (g.runs g.st0 wl)).2
      rw [eos] at ob
      refine ⟨_, rfl, _, rfl, m, D2, M, ws, rfl, hm3, g, SqL.of eD2, wl, ?_⟩
      have ep3 := s3 _ _ ep
      refine ⟨_, rfl, .inl ⟨p, _, _, _, rfl, rfl, SqL.of ep3, a7, .inl ⟨_, rfl, _, _, rfl, rfl, (by show (0 : Int) < 6; decide), rfl, _, rfl, ?_⟩⟩⟩
      refine ifJoin (fun σ H' => ∃ (o : Int) (v9 : Option V), σ = [some (.ref a), some (.int L), some (.int O), some (.ref m), some (.ref D), some (.int (1 + (k : Int))), some (.ref p), some (.ref D2), some (.int o), v9, none] ∧ H' = H3 ∧ 0 ≤ o ∧ o < O) (fun c0 nx => ?_) (fun c0 => ⟨_, _, rfl, rfl, ob⟩) ?_
      · refine ⟨_, rfl, .inl ⟨p, _, _, _, rfl, rfl, SqL.of ep3, a7, .inl ⟨_, rfl, _, _, rfl, rfl, ⟨by decide, by decide⟩, _, rfl, _, _, rfl, rfl, (by show (0 : Int) < O; omega), ?_⟩⟩⟩
        exact nx _ _ ⟨_, _, rfl, rfl, Int.emod_nonneg _ (by omega), Int.emod_lt_of_pos _ (by omega)⟩
      rintro σ H' ⟨o, v9, rfl, rfl, o0, oO⟩
      have l3 := l1'.same (s2.trans s3)
      obtain ⟨ts, ets, rts⟩ := id l3.at
      refine ⟨_, rfl, D, rfl, ⟨_, SqL.of ets⟩, for_list (K := K) (a := D) (xs := ts.map V.ref) (fun i σ H'' => ∃ (o : Int) (v9 : Option V), σ = [some (.ref a), some (.int L), some (.int O), some (.ref m), some (.ref D), some (.int (1 + (k : Int))), some (.ref p), some (.ref D2), some (.int o), v9, none] ∧ H'' = H' ∧ 0 ≤ o ∧ o < O ∧ ∀ r ∈ log.take i, r.1 = ws → r.2 = o) ⟨_, _, rfl, rfl, o0, oO, fun r hr => absurd hr (by simp)⟩ (fun i σ H'' _ ⟨_, _, _, e, _⟩ => by rw [e]; exact SqL.of ets) ?_ ?_⟩
      · rintro i y σ H'' hi ⟨o, v9, rfl, rfl, o0, oO, same⟩
        obtain ⟨t, ht, rfl⟩ := ofV hi
        obtain ⟨⟨wd, ov⟩, er, b, et, eb⟩ := rts.to ht
        have mr := List.mem_of_getElem? er
        refine ⟨_, rfl, .inr (.inl ⟨t, _, 0, .ref b, rfl, rfl, SqT.of et, rfl, ?_⟩)⟩
        refine ⟨_, rfl, eq_lists (SqL.of eb) (SqL.of eD2) ⟨_, rfl, ?_⟩⟩
        refine ite2 (fun c1 => ?_) (fun c1 => ?_)
        · have c1 : wd = ws := by simpa using c1
          refine ⟨_, rfl, .inr (.inl ⟨t, _, 1, .int ov, rfl, rfl, SqT.of et, rfl, ?_⟩)⟩
          refine ⟨ov, _, rfl, rfl, (inR.2.2.2 _ mr).2.1, (inR.2.2.2 _ mr).2.2, fun r hr e => ?_⟩
          rw [take_more er] at hr
          rcases List.mem_append.1 hr with h | h
          · exact cl r (List.mem_of_mem_take h) _ mr (e.trans c1.symm)
          · rw [List.mem_singleton.1 h]
        · have c1 : ¬ wd = ws := by simpa using c1
          refine ⟨o, _, rfl, rfl, o0, oO, fun r hr e => ?_⟩
          rw [take_more er] at hr
          rcases List.mem_append.1 hr with h | h
          · exact same r h e
          · rw [List.mem_singleton.1 h] at e
            exact absurd e c1
      · rintro σ H'' ⟨o, v9, rfl, rfl, o0, oO, same⟩
        rw [List.length_map, rts.1, List.take_length] at same
        refine ⟨_, rfl, .inl ⟨rfl, _, SqL.of ets⟩, _, rfl, _, rfl, (by show 2 ≤ sizeLine; decide), fun u hu => ?_⟩
        have s4 := same_upd (o := .tup [.ref D2, .int o]) (Same.refl H'') hu
        have eu : (upd H'' u (.tup [.ref D2, .int o])) u = some (.tup [.ref D2, .int o]) := upd_same
        generalize upd H'' u (.tup [.ref D2, .int o]) = H4 at *
        obtain ⟨acc, ea, lac, l5⟩ := (l3.same s4).push (x := (ws, o)) (t := u) ⟨D2, nD2, eu, s4 _ _ eD2⟩
        have wl10 : ws.length ≤ 10 := by omega
        refine ⟨D, acc, _, rfl, rfl, ea, Nat.lt_of_le_of_lt (by rw [lac, ll]; omega : acc.length ≤ 1000) (by decide), _, _, _, _, _, log ++ [(ws, o)], rfl, same_set (s03.trans s4) hD, l5, by rw [List.length_append, ll]; rfl, ⟨inR.1, inR.2.1, by rw [List.length_append, ll]; show k + 1 ≤ 30; omega, fun r hr => ?_⟩, fun r hr q hq e => ?_, fun r hr => ?_⟩
        · rcases List.mem_append.1 hr with h | h
          · exact inR.2.2.2 r h
          · rw [List.mem_singleton.1 h]
            exact ⟨⟨wlt, wl10⟩, o0, oO⟩
        · rcases List.mem_append.1 hr with h | h
          · rcases List.mem_append.1 hq with h2 | h2
            · exact cl r h q h2 e
            · rw [List.mem_singleton.1 h2] at e ⊢
              exact same r h e
          · rw [List.mem_singleton.1 h] at e ⊢
            rcases List.mem_append.1 hq with h2 | h2
            · exact (same q h2 e.symm).symm
            · rw [List.mem_singleton.1 h2]
        · rcases List.mem_append.1 hr with h | h
          · exact w7 r h
          · rw [List.mem_singleton.1 h]
            show ws.length ≤ 7
            omega
    · rintro σ H1 ⟨v5, v6, v7, v8, v9, log, rfl, s1, l1', ll, inR, cl, w7⟩
      exact ⟨_, rfl, fin H1 D log s1 hD l1' (by omega) inR cl w7⟩
end
end K42

set_option Elab.async false
set_option linter.all false
set_option maxRecDepth 100000
set_option maxHeartbeats 4000000
/-! *=; a least machine is its own least one; how many words a suite may have; words found, each once -/
namespace Mz
open PySem PySem.Spec PyProof.Rows L2
section
variable {X : Cx}
/-- x *= y of ints -/
theorem ip_mul : PIp X .Mult (fun x y H Q => ∃ i j, x = V.int i ∧ y = V.int j ∧ CMul i j ∧ Q (.int (i * j)) H) := by
  intro pins s σ H x y v u Q I r1 r2 h
  obtain ⟨i, j, e1, e2, c, q⟩ := h
  subst e1
  subst e2
  obtain ⟨t, rfl⟩ := r1
  obtain ⟨t', rfl⟩ := r2
  exact imul_int ⟨.int _, H, I.tok _, ⟨_, rfl⟩, q⟩ c.ok
end
theorem ord_max {M : Mach} {G : List Int} (g : Good M) (r : Rep (EqM M) M.rows.length G) {k : Nat} (h : M.rows.length ≤ k) : ordAt M G k = ordAt M G M.rows.length :=
  ord_stop (ord_len g r M.rows.length) k h
theorem least_all {M N : Mach} {G F : List Int} (ls : M.ls = N.ls) (os : M.os = N.os) (gm : Good M) (gn : Good N) (rm : Rep (EqM M) M.rows.length G) (rn : Rep (EqM N) N.rows.length F) (s : Sim M N 0 0) :
    leastBy M G (ordAt M G M.rows.length) = leastBy N F (ordAt N F N.rows.length) := by
  have h := least_same ls os gm gn rm rn s (max M.rows.length N.rows.length)
  rw [ord_max gm rm (Nat.le_max_left _ _), ord_max gn rn (Nat.le_max_right _ _)] at h
  exact h
theorem least_self {M : Mach} {G : List Int} (g : Good M) (r : Rep (EqM M) M.rows.length G) {L : Mach} (e : L = leastBy M G (ordAt M G M.rows.length)) {F : List Int} (rf : Rep (EqM L) L.rows.length F) : leastBy L F (ordAt L F L.rows.length) = L := by
  have gL : Good L := by rw [e]; exact leastBy_good g r
  have s : Sim M L 0 0 := by rw [e]; exact leastBy_sim g r
  have := least_all (by rw [e]; rfl) (by rw [e]; rfl) g gL r rf s
  rw [← this, ← e]
/-- 1 + l + .. : k summands -/
def spw (l : Int) : Nat → Int
  | 0 => 0
  | k + 1 => spw l k + l ^ k
def mostW (l n : Int) (e : Nat) : Int := (n * l + 1) * spw l (e + 1) * (if n - 1 > 1 then n - 1 else 1)
theorem pow_pos1 {l : Int} (h : 1 ≤ l) : ∀ k : Nat, 1 ≤ l ^ k
  | 0 => by rw [Int.pow_zero]; decide
  | k + 1 => by
    rw [Int.pow_succ]
    have := pow_pos1 h k
    have := Int.mul_le_mul this h (by decide) (by omega)
    omega
theorem pow_le4 {l : Int} (h1 : 1 ≤ l) (h : l ≤ 4) : ∀ k : Nat, l ^ k ≤ 4 ^ k
  | 0 => by rw [Int.pow_zero, Int.pow_zero]; decide
  | k + 1 => by
    rw [Int.pow_succ, Int.pow_succ]
    have := pow_le4 h1 h k
    have := pow_pos1 h1 k
    exact Int.mul_le_mul (pow_le4 h1 h k) h (by omega) (by omega)
theorem pow4_mono {i j : Nat} (h : i ≤ j) : (4 : Int) ^ i ≤ 4 ^ j := by
  have : (4 : Nat) ^ i ≤ 4 ^ j := Nat.pow_le_pow_right (by decide) h
  have := Int.ofNat_le.mpr this
  push_cast at this
  exact this
theorem spw_lo {l : Int} (h : 1 ≤ l) : ∀ k : Nat, (k : Int) ≤ spw l k
  | 0 => by show (0 : Int) ≤ 0; decide
  | k + 1 => by
    have := spw_lo h k
    have := pow_pos1 h k
    show ((k + 1 : Nat) : Int) ≤ spw l k + l ^ k
    omega
theorem spw_hi {l : Int} (h1 : 1 ≤ l) (h : l ≤ 4) : ∀ k : Nat, spw l k ≤ 4 ^ k
  | 0 => by show (0 : Int) ≤ 4 ^ 0; decide
  | k + 1 => by
    have := spw_hi h1 h k
    have := pow_le4 h1 h k
    show spw l k + l ^ k ≤ 4 ^ (k + 1)
    rw [Int.pow_succ]
    have := pow_pos1 (l := 4) (by decide) k
    omega
theorem spw_pow {l : Int} (h1 : 1 ≤ l) : ∀ {k j : Nat}, j < k → l ^ j ≤ spw l k
  | k + 1, j, h => by
    show _ ≤ spw l k + l ^ k
    have p := pow_pos1 h1 k
    by_cases c : j = k
    · subst c
      have := spw_lo h1 j
      omega
    · have := spw_pow h1 (k := k) (j := j) (by omega)
      omega
theorem mids_len {L e : Nat} : ((midsW L e).length : Int) = spw (L : Int) (e + 1) := by
  have : ∀ k : Nat, (((List.range k).flatMap (allW L)).length : Int) = spw (L : Int) k := by
    intro k
    induction k with
    | zero => rfl
    | succ k ih =>
      rw [List.range_succ, List.flatMap_append, List.length_append, List.flatMap_cons, List.flatMap_nil, List.append_nil, allW_len]
      show _ = spw (L : Int) k + (L : Int) ^ k
      rw [← ih]
      push_cast
      rfl
  exact this (e + 1)
/-- the sizes of a suite that is allowed -/
theorem most_parts {l n : Int} {e : Nat} (h1 : 1 ≤ l) (n1 : 1 ≤ n) (h : mostW l n e ≤ 4000) : n * l + 1 ≤ 4000 ∧ spw l (e + 1) ≤ 4000 ∧ (e : Int) + 1 ≤ 4000 := by
  have s1 := spw_lo h1 (e + 1)
  unfold mostW at h
  have a1 : 1 ≤ n * l := by
    have := Int.mul_le_mul n1 h1 (by decide) (by omega)
    omega
  have m1 : (1 : Int) ≤ (if n - 1 > 1 then n - 1 else 1) := by split <;> omega
  generalize (if n - 1 > 1 then n - 1 else 1) = m at *
  generalize spw l (e + 1) = s at *
  have e1 : (n * l + 1) * s ≤ (n * l + 1) * s * m := by
    have := Int.mul_le_mul_of_nonneg_left m1 (c := (n * l + 1) * s) (Int.mul_nonneg (by omega) (by omega))
    omega
  have e2 : s ≤ (n * l + 1) * s := by
    have := Int.mul_le_mul_of_nonneg_right (show (1 : Int) ≤ n * l + 1 by omega) (c := s) (by omega)
    omega
  have e3 : n * l + 1 ≤ (n * l + 1) * s := by
    have := Int.mul_le_mul_of_nonneg_left (show (1 : Int) ≤ s by omega) (c := n * l + 1) (by omega)
    omega
  omega
/-! ### words found -/
def insW (ws : List (List Int)) (w : List Int) : List (List Int) := if w ∈ ws then ws else ws ++ [w]
theorem put_same {κ : Type} [DecidableEq κ] : ∀ {kvs : List (κ × V)} {k : κ} {v : V}, (kvs.map Prod.fst).Nodup → valV kvs k = some v → putK kvs k v = kvs := by
  intro kvs k v nd h
  have ha : (kvs.any fun kv => decide (kv.1 = k)) = true := by rw [valV_any, h]; rfl
  unfold putK
  rw [if_pos ha]
  have : ∀ kv ∈ kvs, (if kv.1 = k then (kv.1, v) else kv) = kv := fun kv hkv => by
    split
    · rename_i e
      have : valV kvs kv.1 = some kv.2 := by
        clear ha h
        induction kvs with
        | nil => cases hkv
        | cons p r ih =>
          rcases List.mem_cons.mp hkv with z | z
          · rw [z, valV_pos rfl]
          · have nd' := List.nodup_cons.mp nd
            rw [valV_neg fun y => nd'.1 (y ▸ List.mem_map.mpr ⟨kv, z, rfl⟩)]
            exact ih nd'.2 z
      rw [e, h] at this
      rw [← Option.some.inj this.symm]
    · rfl
  rw [List.map_congr_left this, List.map_id']
theorem put_ins {ws : List (List Int)} (nd : ws.Nodup) {w : List Int} : putK (kvsW ws) (keyW w) (.bl true) = kvsW (insW ws w) := by
  unfold insW
  split
  · rename_i h
    refine put_same ?_ (by rw [valW, if_pos h])
    unfold kvsW
    rw [List.map_map]
    exact List.pairwise_map.mpr (nd.imp fun ne e => ne (keyW_inj e))
  · rename_i h
    exact putW h
/-- the words of P, each once -/
structure Found (ws P : List (List Int)) : Prop where
  nd : ws.Nodup
  mem : ∀ w, w ∈ ws ↔ w ∈ P
  few : ws.length ≤ P.length
theorem Found.nil : Found [] [] := ⟨List.nodup_nil, fun _ => Iff.rfl, Nat.le_refl _⟩
theorem Found.ins {ws P : List (List Int)} (f : Found ws P) (w : List Int) : Found (insW ws w) (P ++ [w]) := by
  unfold insW
  split
  · rename_i h
    refine ⟨f.nd, fun u => ?_, by rw [List.length_append]; exact Nat.le_trans f.few (Nat.le_add_right _ _)⟩
    rw [List.mem_append, List.mem_singleton, f.mem]
    constructor
    · exact .inl
    · rintro (z | z)
      · exact z
      · rw [z]
        exact (f.mem w).mp h
  · rename_i h
    refine ⟨List.nodup_append.mpr ⟨f.nd, by simp, fun a ha b hb => ?_⟩, fun u => by rw [List.mem_append, List.mem_append, f.mem], by rw [List.length_append, List.length_append]; exact Nat.add_le_add_right f.few _⟩
    rw [List.mem_singleton.mp hb]
    exact fun z => h (z ▸ ha)
theorem Found.to {ws P R : List (List Int)} (f : Found ws P) (e : P = R) : Found ws R := e ▸ f
end Mz

set_option Elab.async false
set_option linter.all false
set_option maxRecDepth 100000
set_option maxHeartbeats 4000000
namespace K42
open PySem PySem.Spec PyProof.Rows L2 Mz
theorem cut_takeN (xs : List V) (k : Nat) : cutV xs none (some (k : Int)) = xs.take k := by
  unfold cutV
  rw [HT.sIx_none, HT.sIx_nat, List.drop_zero, Nat.sub_zero]
  by_cases h : k ≤ xs.length
  · rw [Nat.min_eq_left h]
  · rw [Nat.min_eq_right (by omega), List.take_length, List.take_of_length_le (by omega)]
theorem cut_dropN (xs : List V) (k : Nat) : cutV xs (some (k : Int)) none = xs.drop k := by
  unfold cutV
  rw [HT.sIx_none, HT.sIx_nat]
  by_cases h : k ≤ xs.length
  · rw [Nat.min_eq_left h, List.take_of_length_le (by rw [List.length_drop]; exact Nat.le_refl _)]
  · rw [Nat.min_eq_right (by omega), List.drop_of_length_le (by omega : xs.length ≤ k), Nat.sub_self, List.take_zero]
theorem sort2 {ts : List Addr} {ws : List (List Int)} (l : ts.length = ws.length) (nd0 : ws.Nodup) : ∃ zs : List (Addr × List Int), byKeys (ts.map V.ref) (ws.map wordT) = zs.map (fun z => V.ref z.1) ∧ zs.Perm (ts.zip ws) ∧ Asc (zs.map Prod.snd) := by
  have e : (ts.map V.ref).zip (ws.map wordT) = (ts.zip ws).map (fun z => (V.ref z.1, wordT z.2)) := by
    rw [List.zip_map]
    rfl
  refine ⟨(ts.zip ws).mergeSort (fun p q => !PySem.W.dataLt (wordT q.2) (wordT p.2)), ?_, List.mergeSort_perm _ _, ?_⟩
  · unfold byKeys
    rw [e, ← PySem.W.sort_maps (r := fun p q : Addr × List Int => !PySem.W.dataLt (wordT q.2) (wordT p.2)) (s := PySem.W.dataLe false Prod.snd) (fun z : Addr × List Int => (V.ref z.1, wordT z.2)) (fun a _ b _ => ?_), List.map_map]
    · rfl
    · rw [PySem.W.dataLe_eq]
      rfl
  · have h := PySem.W.sort_pairwise (PySem.W.sortLe_total (PyProof.Rows.listOrd itemOrd) false (fun z : Addr × List Int => PySem.W.keyToks (wordT z.2))) (ts.zip ws)
    have e2 : (ts.zip ws).mergeSort (fun p q => !PySem.W.dataLt (wordT q.2) (wordT p.2)) = (ts.zip ws).mergeSort (PySem.W.sortLe (PyProof.Rows.listOrd itemOrd) false (fun z : Addr × List Int => PySem.W.keyToks (wordT z.2))) := PySem.W.sort_congr fun a _ b _ => rfl
    have pm : ((ts.zip ws).mergeSort (fun p q => !PySem.W.dataLt (wordT q.2) (wordT p.2))).Perm (ts.zip ws) := List.mergeSort_perm _ _
    rw [e2] at pm ⊢
    have pw := pm.map Prod.snd
    have z : (ts.zip ws).map Prod.snd = ws := List.map_snd_zip (by omega)
    rw [z] at pw
    have nd := pw.nodup_iff.2 nd0
    refine asc_of ?_ nd
    rw [List.pairwise_map]
    refine h.imp fun {a b} q => ?_
    have q1 : (!PySem.W.dataLt (wordT b.2) (wordT a.2)) = true := q
    rw [dataLt_wordT] at q1
    simpa using q1
def T2At (H : Hp) (t : Addr) (w : List Int) : Prop := ∃ b, H t = some (.tup [.int w.length, .ref b]) ∧ H b = some (.tup (w.map V.int))
theorem T2At.same {H H' : Hp} {t : Addr} {w : List Int} (s : Same H H') (h : T2At H t w) : T2At H' t w := let ⟨b, h1, h2⟩ := h; ⟨b, s _ _ h1, s _ _ h2⟩
theorem dp_t2 {K : PySem.W.Frag} {H : Hp} : ∀ {ts : List Addr} {ws : List (List Int)}, Rel T2At H ts ws → DpAll K H (ts.map V.ref) (ws.map wordT)
  | [], [], _ => .nil
  | [], _ :: _, h => by cases h.1
  | _ :: _, [], h => by cases h.1
  | t :: ts, w :: ws, h => .cons (by
      obtain ⟨b, h1, h2⟩ := h.2 0 t w rfl rfl
      exact .tup (SqT.of h1) (.cons (.int _) (.cons (.tup (SqT.of h2) (dp_ints w)) .nil))) (dp_t2 ⟨by have := h.1; simpa using this, fun i u y p q => h.2 (i + 1) u y p q⟩)
def spLTails : Sp := fun vs H Q _ => ∃ (l b : Addr) (log : Log) (st : List Int), vs = [.ref l, .ref b] ∧ LogAt H l log ∧ H b = some (.lst (st.map V.int)) ∧ Clean log ∧ log.length ≤ 30 ∧ (∀ r ∈ log, r.1.length ≤ 10) ∧
  ∀ (H' : Hp) (q : Addr) (T : Log), Same H H' → H q = none → H' q = some (.dT (kvsO T)) → (∀ t o, (t, o) ∈ T ↔ DL log st t o) → Q (.ref q) H'
def spLClash : Sp := fun vs H Q _ => ∃ (a b : Addr) (T U : Log), vs = [.ref a, .ref b] ∧ H a = some (.dT (kvsO T)) ∧ H b = some (.dT (kvsO U)) ∧ (∀ t o o', (t, o) ∈ T → (t, o') ∈ T → o' = o) ∧ ∀ H', Same H H' → Q (.bl (contraB T U)) H'
section
variable {P : Program} {w : World} {K : PySem.W.Frag} {mg : Str → Option Value} {base : Heap} {A : Ads} {c1 c2 c3 P1 P2 P3 : Addr}
theorem ok_lclash (T : Txt K mg A) : FnOk P w K mg base CX0 1 A.a_law_clash A.d_law_clash ["first", "second"] spLClash := by
  refine T.F_law_clash.ok sc_law_clash (fun vs H Q E h => ?_) (fun cdv Ar outer s H vs Q E hr h => ?_)
  · obtain ⟨_, _, _, _, rfl, _⟩ := h
    rfl
  · refine ⟨_, (pss_cons (ps_lock (ps_for PassesOwn.never rfl (pi_keys (pv 0)) (pg_name (i := 2) sc_law_clash.nd rfl (Or.inl rfl))
        (pss_one (ps_if (PW.pt (pw_and (pt_cmp (pc_din (hu_of hr) (pv 2) (pv 1))) (pw_and1 (pt_cmpR op_ne (pe_dget (hu_of hr) (pv 0) (pv 2) (fun _ _ => rfl)) (pe_dget (hu_of hr) (pv 1) (pv 2) (fun _ _ => rfl)) (nomark _))))) (pss_one (ps_ret pe_bl)) pss_nil))))
      (pss_one (ps_ret pe_bl))), ?_⟩
    obtain ⟨a, b, T, U, rfl, ea, eb, fT, fin⟩ := h
    refine ⟨a, _, ea, True.intro, fun od => ?_⟩
    have rdU : Rd (upd H a (.frz od (.dT (kvsO T)))) b (.dT (kvsO U)) := by
      by_cases c : b = a
      · subst c
        rw [ea] at eb
        have h : kvsO T = kvsO U := by
          injection (Option.some.inj eb)
        rw [← h]
        exact .inr ⟨od, upd_same⟩
      · exact .inl ((upd_ne c).trans eb)
    have frA : (upd H a (.frz od (.dT (kvsO T)))) a = some (.frz od (.dT (kvsO T))) := upd_same
    have back : Same H (upd (upd H a (.frz od (.dT (kvsO T)))) a (.dT (kvsO T))) := fun x o e => by
      by_cases c : x = a
      · rw [c, upd_same, ← ea, ← c]
        exact e
      · rw [upd_ne c, upd_ne c]
        exact e
    generalize upd H a (.frz od (.dT (kvsO T))) = H0 at *
    refine ⟨_, rfl, a, od, rfl, .inr ⟨_, frA, ?_⟩⟩
    refine for_it walk_keysT (fun i σ H' => ∃ v2 : Option V, σ = [some (.ref a), some (.ref b), v2] ∧ H' = H0 ∧ contraB (T.take i) U = false) ⟨none, rfl, rfl, rfl⟩ (fun i σ H' _ ⟨_, _, e, _⟩ => by rw [e]; exact frA) ?_ ?_
    · rintro i x σ H1x H1 hi ⟨v2, rfl, rfl, no⟩ ⟨rfl, k, v, q, h1, rfl, hq⟩
      have hiT : i < T.length := by
        unfold kvsO at hi
        rw [List.length_map] at hi
        exact hi
      have er := List.getElem?_eq_getElem hiT
      generalize T[i] = r at er
      obtain ⟨t, o⟩ := r
      have ek : (kvsO T)[i]? = some (keyW t, V.int o) := by
        unfold kvsO
        rw [List.getElem?_map, er]
        rfl
      rw [ek] at h1
      cases h1
      have mr := List.mem_of_getElem? er
      have eT : toldOf T t = some o := told_mem (fun o' h => fT t o o' mr h) mr
      have dT : DGet H1 a (.ref q) (some (.int o)) := by
        have := valO (kn := T) (w := t)
        rw [eT] at this
        exact .inr ⟨_, _, _, .inr ⟨od, frA⟩, rfl, hq, this.symm⟩
      have dU : DGet H1 b (.ref q) ((toldOf U t).map V.int) := by
        rw [← valO]
        exact .inr ⟨_, _, _, rdU, rfl, hq, rfl⟩
      have snoc : contraB (T.take (i + 1)) U = decide (V.int ((toldOf U t).getD o) ≠ V.int o) := by
        rw [take_more er]
        unfold contraB at no ⊢
        rw [List.any_append, no]
        simp
      refine ⟨_, rfl, _, rfl, b, _, rfl, dU, _, rfl, ?_⟩
      cases hv : toldOf U t with
      | none =>
        rw [hv] at snoc
        exact ifDF rfl (ifDF rfl ⟨_, rfl, rfl, by rw [snoc]; exact decide_eq_false fun z => z rfl⟩)
      | some v =>
        rw [hv] at snoc dU
        refine ifDT rfl ⟨_, rfl, _, rfl, a, _, rfl, dT, _, rfl, _, rfl, b, _, rfl, dU, rfl, _, rfl, ?_⟩
        by_cases c : v = o
        · subst c
          exact ifDF (by rw [decide_eq_true rfl]; rfl) ⟨_, rfl, rfl, by rw [snoc]; exact decide_eq_false fun z => z rfl⟩
        · have nvo : ¬ V.int o = V.int v := fun z => by cases z; exact c rfl
          refine ifDT (by rw [decide_eq_false nvo]; rfl) ⟨frA, ?_⟩
          have e1 : contraB T U = true := by
            unfold contraB
            refine List.any_eq_true.2 ⟨(t, o), mr, ?_⟩
            show decide (V.int ((toldOf U t).getD o) ≠ V.int o) = true
            rw [hv]
            exact decide_eq_true fun z => nvo z.symm
          have := fin _ back
          rw [e1] at this
          exact this
    · rintro σ H1 ⟨v2, rfl, rfl, no⟩
      have lT : (kvsO T).length = T.length := List.length_map ..
      rw [lT, List.take_length] at no
      refine ⟨frA, ?_⟩
      have := fin _ back
      rw [no] at this
      exact this
theorem ok_ltails (T : Txt K mg A) : FnOk P w K mg base CX0 1 A.a_law_tails A.d_law_tails ["log", "start"] spLTails := by
  refine T.F_law_tails.ok sc_law_tails (fun vs H Q E h => ?_) (fun cdv Ar outer s H vs Q E hr h => ?_)
  · obtain ⟨_, _, _, _, rfl, _⟩ := h
    rfl
  · refine ⟨_, (pss_cons (ps_set (i := 2) sc_law_tails.nd rfl (Or.inl rfl) pe_dnewT)
      (pss_cons (ps_for PassesOwn.never rfl (pi_list (pv 0)) (pg_tup rfl (pgs_cons (pg_name (i := 3) sc_law_tails.nd rfl (Or.inl rfl)) (pgs_cons (pg_name (i := 4) sc_law_tails.nd rfl (Or.inl rfl)) pgs_nil)))
        (pss_one (ps_if (pt_cmpR (op_eqD hr.units) (pe_slice sl_list (pv 3) po_none (po_some (pe_callB call_len_seq (by rfl) T.n_len PySem.boot_len (pa_cons (pv 1) pa_nil)))) (pv 1) (nomark _)) (pss_one (ps_asg (pv 4) (pg_sub (pv 2) (pe_callTy call_tuple_of (by rfl) T.n_tuple (by decide +kernel) (pa_cons (pe_slice sl_list (pv 3) (po_some (pe_callB call_len_seq (by rfl) T.n_len PySem.boot_len (pa_cons (pv 1) pa_nil))) po_none) pa_nil)) (set_dict (hu_of hr))))) pss_nil)))
      (pss_one (ps_ret (pv 2))))), ?_⟩
    obtain ⟨l, b, log, st, rfl, hl, eb, cl, l30, lw, fin⟩ := h
    obtain ⟨ts, el, rl⟩ := id hl
    intro d hd
    have s1 := same_upd (o := .dT []) (Same.refl H) hd
    have ed : (upd H d (.dT [])) d = some (.dT (kvsO [])) := upd_same
    generalize upd H d (.dT []) = H1 at *
    refine ⟨_, rfl, l, rfl, ⟨_, SqL.of (s1 _ _ el)⟩, ?_⟩
    refine for_it walk_list (fun i σ H' => ∃ (v3 v4 : Option V) (T : Log), σ = [some (.ref l), some (.ref b), some (.ref d), v3, v4] ∧ Same H H' ∧ H' d = some (.dT (kvsO T)) ∧ (∀ t o, (t, o) ∈ T ↔ DL (log.take i) st t o) ∧ T.length ≤ i) ⟨_, _, [], rfl, s1, ed, fun t o => ⟨fun z => absurd z (by simp), fun z => absurd z (by unfold DL; simp)⟩, Nat.le_refl _⟩ (fun i σ H' _ ⟨_, _, _, _, s, _⟩ => SqL.of (s _ _ el)) ?_ ?_
    · rintro i x σ H2x H2 hi ⟨v3, v4, T, rfl, s2, e2, mT, lT⟩ ⟨rfl, hx⟩
      obtain ⟨t1, ht1, rfl⟩ := ofV hx
      obtain ⟨⟨w1, o⟩, er, a, et, ea⟩ := rl.to ht1
      have il : i < 30 := by
        have := (List.getElem?_eq_some_iff.1 er).1
        omega
      have et := s2 _ _ et
      have ea := s2 _ _ ea
      have hw1 := lw _ (List.mem_of_getElem? er)
      have hw1 : w1.length ≤ 10 := hw1
      have lb : (st.map V.int).length = st.length := List.length_map ..
      refine ⟨t1, _, rfl, SqT.of et, rfl, _, _, rfl, _, _, rfl, rfl, ?_⟩
      refine ⟨_, rfl, _, rfl, b, _, rfl, .inl (SqL.of (s2 _ _ eb)), ?_⟩
      rw [lb]
      refine ⟨_, rfl, a, _, rfl, SqL.of ea, fun p hp => ?_⟩
      rw [cut_takeN, ← List.map_take]
      have s3 := same_upd (o := .lst ((w1.take st.length).map V.int)) (Same.refl H2) hp
      have e3 : (upd H2 p (.lst ((w1.take st.length).map V.int))) p = some (.lst ((w1.take st.length).map V.int)) := upd_same
      generalize upd H2 p (.lst ((w1.take st.length).map V.int)) = H3 at *
      have s03 := s2.trans s3
      refine ⟨_, rfl, eq_lists (SqL.of e3) (SqL.of (s03 _ _ eb)) ⟨_, rfl, ?_⟩⟩
      have dl : ∀ t v, DL (log.take (i + 1)) st t v ↔ DL (log.take i) st t v ∨ (st ++ t = w1 ∧ v = o) := fun t v => by
        unfold DL
        rw [take_more er, List.mem_append, List.mem_singleton, Prod.mk.injEq]
      refine ite2 (fun c1 => ?_) (fun c1 => ?_)
      · have c1 : w1.take st.length = st := by simpa using c1
        have ew : st ++ w1.drop st.length = w1 := by
          conv => rhs; rw [← List.take_append_drop st.length w1, c1]
        refine ⟨_, rfl, _, rfl, ?_⟩
        refine ⟨_, rfl, _, rfl, b, _, rfl, .inl (SqL.of (s03 _ _ eb)), ?_⟩
        rw [lb]
        refine ⟨_, rfl, ?_⟩
        dsimp only [tNoPart]
        refine ⟨a, _, rfl, SqL.of (s3 _ _ ea), fun p2 hp2 => ?_⟩
        rw [cut_dropN, ← List.map_drop]
        have s4 := same_upd (o := .lst ((w1.drop st.length).map V.int)) (Same.refl H3) hp2
        have e4 : (upd H3 p2 (.lst ((w1.drop st.length).map V.int))) p2 = some (.lst ((w1.drop st.length).map V.int)) := upd_same
        generalize upd H3 p2 (.lst ((w1.drop st.length).map V.int)) = H4 at *
        refine ⟨p2, _, rfl, .inl ⟨SqL.of e4, fun u hu => ?_⟩⟩
        have s5 := same_upd (o := .tup ((w1.drop st.length).map V.int)) (Same.refl H4) hu
        have eu : (upd H4 u (.tup ((w1.drop st.length).map V.int))) u = some (.tup ((w1.drop st.length).map V.int)) := upd_same
        generalize upd H4 u (.tup ((w1.drop st.length).map V.int)) = H5 at *
        have s25 := s3.trans (s4.trans s5)
        have un : ∀ o', (w1.drop st.length, o') ∈ T → o' = o := fun o' h => by
          have h := (mT _ _).1 h
          unfold DL at h
          rw [ew] at h
          exact cl _ (List.mem_of_mem_take h) _ (List.mem_of_getElem? er) rfl
        refine ⟨d, _, rfl, DPut.t (s25 _ _ e2) (k := keyW (w1.drop st.length)) (by rw [keyW_V]; exact eu) (Nat.lt_of_le_of_lt (by
          unfold kvsO
          rw [List.length_map]
          omega : _ ≤ 1000) (by decide)), ?_⟩
        rw [put_kvs un]
        refine ⟨_, _, _, rfl, same_set (s2.trans s25) hd, upd_same, fun t v => ?_, Nat.le_trans (putT_len _ _ _) (by omega)⟩
        rw [putT_mem, mT, dl]
        refine or_congr Iff.rfl ⟨fun q => ?_, fun q => ?_⟩
        · cases q
          exact ⟨ew, rfl⟩
        · refine Prod.ext ?_ q.2
          have := q.1
          rw [← ew] at this
          exact List.append_cancel_left this
      · have c1 : ¬ w1.take st.length = st := by simpa using c1
        refine ⟨_, _, T, rfl, s03, s3 _ _ e2, fun t v => ?_, by omega⟩
        rw [mT, dl]
        refine ⟨.inl, fun q => q.elim id fun q => ?_⟩
        refine absurd ?_ c1
        rw [← q.1]
        simp
    · rintro σ H2 ⟨v3, v4, T, rfl, s2, e2, mT, lT⟩
      rw [List.length_map, rl.1, List.take_length] at mT
      exact ⟨_, rfl, fin H2 d T s2 hd e2 mT⟩
theorem ok_lbegin (T : Txt K mg A) : FnOk P w K mg base CX0 1 A.a_law_beginnings A.d_law_beginnings ["log"] spBegin := by
  refine T.F_law_beginnings.ok sc_law_beginnings (fun vs H Q E h => ?_) (fun cdv Ar outer s H vs Q E hr h => ?_)
  · obtain ⟨_, _, rfl, _⟩ := h
    rfl
  · refine ⟨_, (pss_cons (ps_set (i := 1) sc_law_beginnings.nd rfl (Or.inl rfl) (pe_disp1T (hu_of hr) (pe_tup pa_nil) pe_bl))
      (pss_cons (ps_for PassesOwn.never rfl (pi_list (pv 0)) (pg_tup rfl (pgs_cons (pg_name (i := 2) sc_law_beginnings.nd rfl (Or.inl rfl)) (pgs_cons (pg_name (i := 3) sc_law_beginnings.nd rfl (Or.inl rfl)) pgs_nil)))
        (pss_one (ps_for PassesOwn.never rfl (pi_range1 (by rfl) T.n_range (pa_cons (pe_op op_add (pe_callB (r := rLenK K) call_lenK (by rfl) T.n_len PySem.boot_len (pa_cons (pv 2) pa_nil)) pe_int) pa_nil)) (pg_name (i := 4) sc_law_beginnings.nd rfl (Or.inl rfl))
            (pss_one (ps_asg pe_bl (pg_sub (pv 1) (pe_callTy call_tuple_of (by rfl) T.n_tuple (by decide +kernel) (pa_cons (pe_slice sl_list (pv 2) po_none (po_some (pv 4))) pa_nil)) (set_dict (hu_of hr))))))))
      (pss_one (ps_lock (ps_ret (pe_lc (own := [("row", 5)]) (g := (gName 5)) (tt := tYes) rfl sc_law_beginnings.nd (pi_list (pe_callB (cr_sortD hr.units) (by rfl) T.n_sorted (by decide +kernel) (pa_cons (pe_lc (own := [("word", 2)]) (g := (gName 2)) (tt := tYes) rfl sc_law_beginnings.nd (pi_keys (pv 1)) (blkOk_by (N := ["log", "found", "word", "output", "k", "row"]) (sc := defScope s_law_beginnings) (by decide +kernel)) (fun _ _ _ _ _ => (pg_name (i := 2) sc_law_beginnings.nd rfl (Or.inl rfl))) (fun _ _ _ _ _ => pts_nil) (fun _ _ _ _ _ => (pe_tup (pa_cons (pe_callB (r := rLenK K) call_lenK (by rfl) T.n_len PySem.boot_len (pa_cons (pv 2) pa_nil)) (pa_cons (pv 2) pa_nil))))) pa_nil))) (blkOk_by (N := ["log", "found", "word", "output", "k", "row"]) (sc := defScope s_law_beginnings) (by decide +kernel)) (fun _ _ _ _ _ => (pg_name (i := 5) sc_law_beginnings.nd rfl (Or.inl rfl))) (fun _ _ _ _ _ => pts_nil) (fun _ _ _ _ _ => (pe_callTy (r := rLof K) (T := "list") call_lof (by rfl) T.n_list (by decide +kernel) (pa_cons (pe_ix (r := rIx K) ix_seq (pv 5) pe_int (fun _ _ => rfl)) pa_nil))))))))), ?_⟩
    obtain ⟨l, log, rfl, hl, cl, l30, lw, fin⟩ := h
    obtain ⟨ts, el, rl⟩ := id hl
    intro e he
    have s1 := same_upd (o := .dT []) (Same.refl H) he
    have ee : (upd H e (.dT [])) e = some (.dT []) := upd_same
    generalize upd H e (.dT []) = H1 at *
    refine ⟨(by show 0 ≤ sizeLine; decide), fun q hq => ?_⟩
    have s2 := same_upd (o := .tup []) (Same.refl H1) hq
    have eq : (upd H1 q (.tup [])) q = some (.tup []) := upd_same
    generalize upd H1 q (.tup []) = H2 at *
    refine ⟨q, [], rfl, eq, s2 _ _ ee, ?_⟩
    have sS : Same H (upd H2 e (.dT [([], .bl true)])) := same_set (s1.trans s2) he
    have e3 : (upd H2 e (.dT [([], .bl true)])) e = some (.dT (kvsW [[]])) := upd_same
    generalize upd H2 e (.dT [([], .bl true)]) = H3 at *
    clear eq ee s1 s2 hq
    refine ⟨_, rfl, l, rfl, ⟨_, SqL.of (sS _ _ el)⟩, ?_⟩
    refine for_it walk_list (fun i σ H' => ∃ (v2 v3 v4 : Option V) (ws : List (List Int)), σ = [some (.ref l), some (.ref e), v2, v3, v4, none] ∧ Same H H' ∧ H' e = some (.dT (kvsW ws)) ∧ ws.Nodup ∧ (∀ b, b ∈ ws ↔ BL (log.take i) b) ∧ ws.length ≤ 1 + 11 * i) ⟨_, _, _, [[]], rfl, sS, e3, by simp, fun b => ⟨fun z => .inl (List.mem_singleton.1 z), fun z => by
      rcases z with z | ⟨r, hr, _⟩
      · rw [z]; exact List.mem_cons_self
      · exact absurd hr (by simp)⟩, Nat.le_refl _⟩ (fun i σ H' _ ⟨_, _, _, _, _, s, _⟩ => SqL.of (s _ _ el)) ?_ ?_
    · rintro i x σ H5x H5 hi ⟨v2, v3, v4, ws, rfl, s5, e5, nd, mw, lws⟩ ⟨rfl, hx⟩
      obtain ⟨t1, ht1, rfl⟩ := ofV hx
      obtain ⟨⟨w1, o⟩, er, a, et, ea⟩ := rl.to ht1
      have hw1 := lw _ (List.mem_of_getElem? er)
      have hw1 : w1.length ≤ 10 := hw1
      have et := s5 _ _ et
      have il : i < 30 := by
        have := (List.getElem?_eq_some_iff.1 er).1
        omega
      refine ⟨t1, _, rfl, SqT.of et, rfl, _, _, rfl, _, _, rfl, rfl, ?_⟩
      refine ⟨_, rfl, a, _, rfl, .inl (SqL.of (s5 _ _ ea)), ?_⟩
      rw [List.length_map]
      refine ⟨_, _, rfl, rfl, (w1.length : Int) + 1, rfl, by omega, by omega, ?_⟩
      refine for_range (n := ((w1.length : Int) + 1).toNat) (fun j σ H' => ∃ (v4 : Option V) (ws : List (List Int)), σ = [some (.ref l), some (.ref e), some (.ref a), some (.int o), v4, none] ∧ Same H H' ∧ H' e = some (.dT (kvsW ws)) ∧ ws.Nodup ∧ (∀ b, b ∈ ws ↔ BS (log.take i) w1 j b) ∧ ws.length ≤ 1 + 11 * i + j) ⟨_, ws, rfl, s5, e5, nd, fun b => (mw b).trans ⟨.inl, fun h => h.elim id fun ⟨p, hp, _⟩ => absurd hp (Nat.not_lt_zero _)⟩, lws⟩ ?_ ?_
      · clear nd mw lws e5 et
        clear ws
        rintro j σ H7 hj ⟨v4', ws, rfl, s7, e7, nd, mw, lws⟩
        have hj : j ≤ w1.length := by omega
        refine ⟨_, rfl, ?_⟩
        refine ⟨_, rfl, _, rfl, _, rfl, a, _, rfl, SqL.of (s7 _ _ ea), fun p hp => ?_⟩
        rw [show ((0 : Int) + (j : Int)) = ((j : Nat) : Int) by omega, cut_takeN, ← List.map_take]
        have s8 := same_upd (o := .lst ((w1.take j).map V.int)) (Same.refl H7) hp
        have e8 : (upd H7 p (.lst ((w1.take j).map V.int))) p = some (.lst ((w1.take j).map V.int)) := upd_same
        generalize upd H7 p (.lst ((w1.take j).map V.int)) = H8 at *
        refine ⟨p, _, rfl, .inl ⟨SqL.of e8, fun u hu => ?_⟩⟩
        have s9 := same_upd (o := .tup ((w1.take j).map V.int)) (Same.refl H8) hu
        have eu : (upd H8 u (.tup ((w1.take j).map V.int))) u = some (.tup ((w1.take j).map V.int)) := upd_same
        generalize upd H8 u (.tup ((w1.take j).map V.int)) = H9 at *
        have s79 := s8.trans s9
        refine ⟨e, _, rfl, DPut.t (s79 _ _ e7) (k := keyW (w1.take j)) (by rw [keyW_V]; exact eu) (Nat.lt_of_le_of_lt (by
          rw [kvsW_len]
          omega : _ ≤ 1000) (by decide)), ?_⟩
        rw [put_ins nd]
        have mi : ∀ b, b ∈ insW ws (w1.take j) ↔ b ∈ ws ∨ b = w1.take j := fun b => by
          unfold insW
          by_cases c : w1.take j ∈ ws
          · rw [if_pos c]
            exact ⟨.inl, fun h => h.elim id fun z => by rw [z]; exact c⟩
          · rw [if_neg c, List.mem_append, List.mem_singleton]
        refine ⟨_, insW ws (w1.take j), rfl, same_set (s7.trans s79) he, upd_same, ?_, fun b => ?_, ?_⟩
        · unfold insW
          by_cases c : w1.take j ∈ ws
          · rw [if_pos c]; exact nd
          · rw [if_neg c, List.nodup_append]
            refine ⟨nd, List.pairwise_singleton .., fun x hx y hy z => c ?_⟩
            rw [List.mem_singleton.1 hy] at z
            rw [← z]
            exact hx
        · rw [mi, mw]
          unfold BS
          constructor
          · rintro ((h | ⟨p, hp, h1⟩) | h1)
            · exact .inl h
            · exact .inr ⟨p, Nat.lt_succ_of_lt hp, h1⟩
            · exact .inr ⟨j, Nat.lt_succ_self _, h1⟩
          · rintro (h | ⟨p, hp, h1⟩)
            · exact .inl (.inl h)
            · rcases Nat.lt_succ_iff_lt_or_eq.1 hp with q | q
              · exact .inl (.inr ⟨p, q, h1⟩)
              · rw [q] at h1
                exact .inr h1
        · unfold insW
          split
          · omega
          · rw [List.length_append]
            show ws.length + 1 ≤ _
            omega
      · rintro σ H7 ⟨v4', ws, rfl, s7, e7, nd, mw, lws⟩
        rw [show ((w1.length : Int) + 1).toNat = w1.length + 1 by omega] at mw lws
        refine ⟨_, _, _, ws, rfl, s7, e7, nd, fun b => ?_, by omega⟩
        rw [mw, take_more er]
        exact (bs_all (o := o)).symm
    rintro σ H5 ⟨v2, v3, v4, ws, rfl, s5, e5, nd, mw, lws⟩
    rw [List.length_map, rl.1] at mw lws
    rw [List.take_length] at mw
    have l331 : ws.length ≤ 331 := by omega
    refine ⟨e, _, e5, True.intro, fun od => ?_⟩
    have frE : (upd H5 e (.frz od (.dT (kvsW ws)))) e = some (.frz od (.dT (kvsW ws))) := upd_same
    have sF : Same H (upd H5 e (.frz od (.dT (kvsW ws)))) := same_set s5 he
    generalize upd H5 e (.frz od (.dT (kvsW ws))) = H6 at *
    refine ⟨_, rfl, e, od, rfl, .inr ⟨_, frE, fun D hD => ?_⟩⟩
    have fF : ∀ {H'}, Same H6 H' → H' e = some (.frz od (.dT (kvsW ws))) := fun s => s _ _ frE
    refine it_any walk_keysT (fun i H' => Same H6 H' ∧ ∃ us : List Addr, H' D = some (.lst (us.map V.ref)) ∧ Rel T2At H' us (ws.take i)) ⟨same_upd (Same.refl _) hD, [], upd_same, Rel.nil⟩ (fun i H' _ z => fF z.1) ?_ ?_
    · rintro i x H7x H7 hi ⟨s7, us, e7, ru⟩ ⟨rfl, k, v, q, h1, rfl, hq⟩
      rw [kvsW_len] at hi
      have ew := List.getElem?_eq_getElem hi
      generalize ws[i] = b at ew
      have ek : (kvsW ws)[i]? = some (keyW b, V.bl true) := by
        unfold kvsW
        rw [List.getElem?_map, ew]
        rfl
      rw [ek] at h1
      cases h1
      rw [keyW_V] at hq
      refine ⟨rfl, _, rfl, q, _, rfl, .inr (SqT.of hq), ?_⟩
      rw [List.length_map]
      refine ⟨_, rfl, (by show 2 ≤ sizeLine; decide), fun u hu => ?_⟩
      have s8 := same_upd (o := .tup [.int (b.length : Int), .ref q]) (Same.refl H7) hu
      have eu : (upd H7 u (.tup [.int (b.length : Int), .ref q])) u = some (.tup [.int (b.length : Int), .ref q]) := upd_same
      generalize upd H7 u (.tup [.int (b.length : Int), .ref q]) = H8 at *
      have lu : us.length = i := by
        rw [ru.1, List.length_take]
        omega
      have e8 := s8 _ _ e7
      refine ⟨_, e8, Nat.lt_of_le_of_lt (by rw [List.length_map, lu]; omega : _ ≤ 1000) (by decide), same_set (s7.trans s8) hD, us ++ [u], by rw [upd_same, List.map_append]; rfl, ?_⟩
      have ne : ∀ {a : Addr} {y : List Int}, T2At H8 a y → T2At (upd H8 D (.lst (us.map V.ref ++ [.ref u]))) a y := fun {a y} ⟨b, f1, f2⟩ => ⟨b, (upd_ne fun z => by rw [z, e8] at f1; cases f1).trans f1, (upd_ne fun z => by rw [z, e8] at f2; cases f2).trans f2⟩
      rw [take_more ew]
      exact Rel.push (Rel.imp (Rel.imp ru fun _ _ => T2At.same s8) fun _ _ => ne) (ne ⟨q, eu, s8 _ _ hq⟩)
    rintro H7 ⟨s7, us, e7, ru⟩
    rw [kvsW_len, List.take_length] at ru
    refine ⟨D, _, _, rfl, SqL.of e7, dp_t2 ru, PySem.W.AllAlike.of alike_wordT, PySem.W.Sortable.tuples (fun r => ⟨_, _, rfl⟩), fun d hd => ?_, fun p hp => ?_⟩
    · obtain ⟨x, _, rfl⟩ := List.mem_map.1 hd
      have := depth_wordT x
      omega
    obtain ⟨zs, ez, pz, asc⟩ := sort2 ru.1 nd
    rw [ez]
    have s8 := same_upd (o := .lst (zs.map fun z => V.ref z.1)) (Same.refl H7) hp
    have e8 : (upd H7 p (.lst (zs.map fun z => V.ref z.1))) p = some (.lst (zs.map fun z => V.ref z.1)) := upd_same
    generalize upd H7 p (.lst (zs.map fun z => V.ref z.1)) = H8 at *
    have pws : (zs.map Prod.snd).Perm ws := by
      have := pz.map Prod.snd
      rw [List.map_snd_zip (by have := ru.1; omega)] at this
      exact this
    have hz : ∀ z ∈ zs, T2At H7 z.1 z.2 := fun z hz => by
      have := pz.mem_iff.1 hz
      obtain ⟨i, hi⟩ := List.mem_iff_getElem?.1 this
      rw [List.getElem?_zip_eq_some] at hi
      exact ru.2 i _ _ hi.1 hi.2
    have s68 := s7.trans s8
    refine ⟨p, rfl, ⟨_, SqL.of e8⟩, fun D3 hD3 => ?_⟩
    refine it_any walk_list (fun i H' => Same H8 H' ∧ LLn H H' D3 ((zs.map Prod.snd).take i)) ⟨same_upd (Same.refl _) hD3, [], upd_same, ⟨rfl, fun i a w h1 _ => by cases h1⟩, fun a ha => absurd ha (by simp)⟩ (fun i H' _ z => SqL.of (z.1 _ _ e8)) ?_ ?_
    · rintro i x H9x H9 hi ⟨s9, l9⟩ ⟨rfl, hx⟩
      rw [List.getElem?_map] at hx
      cases hzi : zs[i]? with
      | none => rw [hzi] at hx; cases hx
      | some z =>
        rw [hzi] at hx
        cases hx
        obtain ⟨bq, f1, f2⟩ := hz z (List.mem_of_getElem? hzi)
        have f1 := s9 _ _ (s8 _ _ f1)
        have f2 := s9 _ _ (s8 _ _ f2)
        have ezi : (zs.map Prod.snd)[i]? = some z.2 := by rw [List.getElem?_map, hzi]; rfl
        refine ⟨rfl, _, rfl, .inr (.inl ⟨z.1, _, 1, .ref bq, rfl, rfl, SqT.of f1, rfl, ?_⟩)⟩
        refine ⟨bq, _, rfl, .inr (SqT.of f2), fun y hy => ?_⟩
        have s10 := same_upd (o := .lst (z.2.map V.int)) (Same.refl H9) hy
        have ey : (upd H9 y (.lst (z.2.map V.int))) y = some (.lst (z.2.map V.int)) := upd_same
        have nD : y ≠ D3 := fun z => by
          obtain ⟨us, e, _⟩ := l9
          rw [z, e] at hy
          cases hy
        have fy : H y = none := (sF.trans (s68.trans s9)).free hy
        generalize upd H9 y (.lst (z.2.map V.int)) = H10 at *
        obtain ⟨acc, ea, la, l10⟩ := (l9.same s10).push fy nD ey
        have lz : zs.length ≤ 331 := by
          have := pws.length_eq
          rw [List.length_map] at this
          omega
        refine ⟨acc, ea, Nat.lt_of_le_of_lt (by rw [la, List.length_take, List.length_map]; omega : acc.length ≤ 1000) (by decide), same_set (s9.trans s10) hD3, ?_⟩
        rw [take_more ezi]
        exact l10
    · rintro H9 ⟨s9, l9⟩
      have lzz : (zs.map fun z => V.ref z.1).length = (zs.map Prod.snd).length := by rw [List.length_map, List.length_map]
      rw [lzz, List.take_length] at l9
      have fe := fF (s68.trans s9)
      refine ⟨fe, fin _ D3 _ (same_set (sF.trans (s68.trans s9)) he) ((sF.trans s68).free hD3) ?_ (fun b => ?_) asc⟩
      · obtain ⟨as, f1, f2, f3⟩ := l9
        have ne : ∀ {a : Addr} {xs : List V}, H9 a = some (.lst xs) → a ≠ e := fun q z => by
          rw [z, fe] at q
          cases q
        exact ⟨as, (upd_ne (ne f1)).trans f1, ⟨f2.1, fun i a w p1 p2 => (upd_ne (ne (f2.2 i a w p1 p2))).trans (f2.2 i a w p1 p2)⟩, f3⟩
      · rw [pws.mem_iff, mw]
end
end K42

set_option Elab.async false
set_option linter.all false
set_option maxRecDepth 100000
set_option maxHeartbeats 4000000
namespace K42
open PySem PySem.Spec PyProof.Rows L2 Mz
/-! ### what the parts are -/
/-- each key once -/
def Dist (cl : List (PK × Int)) : Prop := ∀ kv ∈ cl, findK cl kv.1 = some kv.2
theorem find_app {acc : List (PK × Int)} {k k' : PK} {o : Int} : findK (acc ++ [(k, o)]) k' = match findK acc k' with | some v => some v | none => if k = k' then some o else none := by
  unfold findK
  rw [List.find?_append]
  cases e : acc.find? fun kv => decide (kv.1 = k') with
  | some v => rfl
  | none =>
    rw [Option.none_or, List.find?_cons]
    by_cases c : k = k'
    · simp [c]
    · simp [c]
theorem put1_spec {acc c : List (PK × Int)} {k : PK} {o : Int} (d : Dist acc) (h : put1 acc k o = some c) : Dist c ∧ ∀ k' v, findK c k' = some v ↔ findK acc k' = some v ∨ (k' = k ∧ v = o) := by
  unfold put1 at h
  split at h
  · rename_i e
    cases h
    have key : ∀ k' v, findK (acc ++ [(k, o)]) k' = some v ↔ findK acc k' = some v ∨ (k' = k ∧ v = o) := by
      intro k' v
      rw [find_app]
      cases e2 : findK acc k' with
      | some u =>
        have ne : k' ≠ k := fun z => by rw [z, e] at e2; cases e2
        simp [ne]
      | none =>
        by_cases c : k = k'
        · simp [c, eq_comm]
        · simp [c, Ne.symm c]
    refine ⟨fun kv hkv => ?_, key⟩
    rw [key]
    rcases List.mem_append.1 hkv with z | z
    · exact .inl (d kv z)
    · rw [List.mem_singleton.1 z]
      exact .inr ⟨rfl, rfl⟩
  · rename_i v e
    split at h
    · rename_i ev
      cases h
      refine ⟨d, fun k' u => ⟨.inl, fun z => ?_⟩⟩
      rcases z with z | ⟨z1, z2⟩
      · exact z
      · rw [z1, z2, ← ev]
        exact e
    · cases h
theorem move_spec {L : Int} {mv : List Int} (cl : List (PK × Int)) : ∀ c, moveOn L mv cl = some c → Dist c ∧ ∀ k o, findK c k = some o ↔ ∃ kv ∈ cl, adv L mv kv.1.1 kv.1.2 = k ∧ kv.2 = o := by
  induction cl using snoc_ind with
  | h0 =>
    intro c h
    cases h
    exact ⟨fun kv h => absurd h (by simp), fun k o => ⟨fun z => (by cases z), fun ⟨kv, h, _⟩ => absurd h (by simp)⟩⟩
  | hs cl kv ih =>
    intro c h
    rw [move_snoc] at h
    obtain ⟨a, h1, h2⟩ := Option.bind_eq_some_iff.1 h
    obtain ⟨d, f⟩ := ih a h1
    obtain ⟨d2, g⟩ := put1_spec d h2
    refine ⟨d2, fun k o => ?_⟩
    rw [g, f]
    constructor
    · rintro (⟨kw, m, e⟩ | ⟨e1, e2⟩)
      · exact ⟨kw, List.mem_append_left _ m, e⟩
      · exact ⟨kv, List.mem_append_right _ List.mem_cons_self, e1.symm, e2.symm⟩
    · rintro ⟨kw, m, e⟩
      rcases List.mem_append.1 m with z | z
      · exact .inl ⟨kw, z, e⟩
      · rw [List.mem_singleton.1 z] at e
        exact .inr ⟨e.1.symm, e.2.symm⟩
theorem move_nc {L : Int} {mv : List Int} (cl : List (PK × Int)) : moveOn L mv cl = none → ∃ kv ∈ cl, ∃ kw ∈ cl, adv L mv kv.1.1 kv.1.2 = adv L mv kw.1.1 kw.1.2 ∧ kv.2 ≠ kw.2 := by
  induction cl using snoc_ind with
  | h0 => exact fun h => by cases h
  | hs cl kv ih =>
    intro h
    cases e : moveOn L mv cl with
    | none =>
      obtain ⟨x, hx, y, hy, z⟩ := ih e
      exact ⟨x, List.mem_append_left _ hx, y, List.mem_append_left _ hy, z⟩
    | some a =>
      rw [move_snoc, e] at h
      have h : put1 a (adv L mv kv.1.1 kv.1.2) kv.2 = none := h
      unfold put1 at h
      split at h
      · cases h
      · rename_i v ev
        split at h
        · cases h
        · rename_i ne
          obtain ⟨x, hx, e1, e2⟩ := ((move_spec cl a e).2 _ _).1 ev
          exact ⟨x, List.mem_append_left _ hx, kv, List.mem_append_right _ List.mem_cons_self, e1, fun z => ne (e2.symm.trans z)⟩
/-- further moves go on where the first ones stopped -/
theorem adv_adv {L : Int} {mv ext : List Int} (L0 : 0 ≤ L) (hm : ∀ z ∈ mv, 0 ≤ z) : ∀ {w : List Int} {s : Int}, 0 ≤ s → Lt L w → adv L (mv ++ ext) s w = adv L (mv ++ ext) (adv L mv s w).1 (adv L mv s w).2
  | [], s, _, _ => rfl
  | a :: w, s, h0, hw => by
    have ha := hw a List.mem_cons_self
    have hw2 : Lt L w := fun z hz => hw z (List.mem_cons_of_mem _ hz)
    by_cases c : s * L + a < (mv.length : Int)
    · have p0 : 0 ≤ s * L := Int.mul_nonneg h0 L0
      have lt : (s * L + a).toNat < mv.length := by omega
      have e1 : adv L mv s (a :: w) = adv L mv (mv.getD (s * L + a).toNat 0) w := by
        show (if s * L + a < (mv.length : Int) then _ else _) = _
        rw [if_pos c]
      have e2 : adv L (mv ++ ext) s (a :: w) = adv L (mv ++ ext) (mv.getD (s * L + a).toNat 0) w := by
        show (if s * L + a < ((mv ++ ext).length : Int) then _ else _) = _
        rw [if_pos (by rw [List.length_append]; omega)]
        rw [List.getD_eq_getElem?_getD, List.getElem?_append_left lt, ← List.getD_eq_getElem?_getD]
      have g0 : 0 ≤ mv.getD (s * L + a).toNat 0 := by
        rw [List.getD_eq_getElem?_getD, List.getElem?_eq_getElem lt]
        exact hm _ (List.getElem_mem lt)
      rw [e1, e2]
      exact adv_adv L0 hm g0 hw2
    · have e1 : adv L mv s (a :: w) = (s, a :: w) := by
        show (if s * L + a < (mv.length : Int) then _ else _) = _
        rw [if_neg c]
      rw [e1]
/-- no two words of the log contradict each other -/
def NC (L : Int) (mv : List Int) (log : Log) : Prop := ∀ r ∈ log, ∀ q ∈ log, adv L mv 0 r.1 = adv L mv 0 q.1 → r.2 = q.2
/-- the claims are the log's, moved on -/
structure Cl (L : Int) (mv : List Int) (log : Log) (cl : List (PK × Int)) : Prop where
  dist : Dist cl
  find : ∀ k o, findK cl k = some o ↔ ∃ r ∈ log, adv L mv 0 r.1 = k ∧ r.2 = o
theorem Cl.nc {L : Int} {mv : List Int} {log : Log} {cl : List (PK × Int)} (h : Cl L mv log cl) : NC L mv log := fun r hr q hq e => by
  have h1 := (h.find _ _).2 ⟨r, hr, rfl, rfl⟩
  have h2 := (h.find _ _).2 ⟨q, hq, rfl, rfl⟩
  rw [e, h2] at h1
  exact (Option.some.inj h1).symm
theorem NC.pre {L : Int} {mv ext : List Int} {log : Log} (L0 : 0 ≤ L) (hm : ∀ z ∈ mv, 0 ≤ z) (hl : ∀ r ∈ log, Lt L r.1) (h : NC L (mv ++ ext) log) : NC L mv log := fun r hr q hq e => h r hr q hq (by
  rw [adv_adv L0 hm (Int.le_refl 0) (hl r hr), adv_adv L0 hm (Int.le_refl 0) (hl q hq), e])
/-- numbered as met, one move after the other -/
def Ord (n : Int) (mv : List Int) : Prop := ∀ i z, mv[i]? = some z → 0 ≤ z ∧ z ≤ maxMet (mv.take i) ∧ z < n
theorem Ord.snoc {n : Int} {mv : List Int} {z : Int} : Ord n (mv ++ [z]) ↔ Ord n mv ∧ 0 ≤ z ∧ z ≤ maxMet mv ∧ z < n := by
  constructor
  · intro h
    refine ⟨fun i y hy => ?_, ?_⟩
    · have lt := (List.getElem?_eq_some_iff.1 hy).1
      have := h i y (by rw [List.getElem?_append_left lt]; exact hy)
      rw [List.take_append_of_le_length (by omega)] at this
      exact this
    · have := h mv.length z (by simp)
      rw [List.take_append_of_le_length (by omega), List.take_length] at this
      exact this
  · rintro ⟨h, hz⟩ i y hy
    by_cases c : i < mv.length
    · rw [List.getElem?_append_left c] at hy
      rw [List.take_append_of_le_length (by omega)]
      exact h i y hy
    · rw [List.getElem?_append_right (by omega)] at hy
      have e0 : i - mv.length = 0 := by
        cases q : i - mv.length with
        | zero => rfl
        | succ m => rw [q] at hy; cases hy
      rw [e0] at hy
      cases hy
      rw [List.take_append_of_le_length (by omega), List.take_of_length_le (by omega)]
      exact hz
theorem Ord.nn {n : Int} {mv : List Int} (h : Ord n mv) : ∀ z ∈ mv, 0 ≤ z ∧ z < n := fun z hz => by
  obtain ⟨i, hi⟩ := List.mem_iff_getElem?.1 hz
  have := h i z hi
  exact ⟨this.1, this.2.2⟩
theorem adv_nil {L : Int} (_L0 : 0 ≤ L) {w : List Int} (hw : Lt L w) : adv L [] 0 w = (0, w) := by
  cases w with
  | nil => rfl
  | cons a w =>
    have := (hw a List.mem_cons_self).1
    show (if (0 : Int) * L + a < (([] : List Int).length : Int) then _ else _) = _
    rw [if_neg (by rw [Int.zero_mul]; simp; omega)]
theorem start_cl {L : Int} (L0 : 0 ≤ L) {log : Log} (hl : ∀ r ∈ log, Lt L r.1) (cl : Clean log) : Cl L [] log (startOf log) := by
  have gen : ∀ i, i ≤ log.length → Dist (startOf (log.take i)) ∧ ∀ k o, findK (startOf (log.take i)) k = some o ↔ ∃ r ∈ log.take i, (0, r.1) = k ∧ r.2 = o := by
    intro i
    induction i with
    | zero => exact fun _ => ⟨fun kv h => absurd h (by simp [startOf]), fun k o => ⟨fun z => (by cases z), fun ⟨kv, h, _⟩ => absurd h (by simp)⟩⟩
    | succ i ih =>
      intro hi
      obtain ⟨d, f⟩ := ih (by omega)
      have er := List.getElem?_eq_getElem (show i < log.length by omega)
      have mr := List.getElem_mem (show i < log.length by omega)
      generalize log[i] = r at er mr
      rw [take_more er, start_snoc]
      have key : ∀ (X : List (PK × Int)), put1 (startOf (log.take i)) (0, r.1) r.2 = some X → Dist X ∧ ∀ k o, findK X k = some o ↔ ∃ q ∈ log.take i ++ [r], (0, q.1) = k ∧ q.2 = o := by
        intro X hX
        obtain ⟨d2, g⟩ := put1_spec d hX
        refine ⟨d2, fun k o => ?_⟩
        rw [g, f]
        constructor
        · rintro (⟨kw, m, e⟩ | ⟨e1, e2⟩)
          · exact ⟨kw, List.mem_append_left _ m, e⟩
          · exact ⟨r, List.mem_append_right _ List.mem_cons_self, e1.symm, e2.symm⟩
        · rintro ⟨kw, m, e⟩
          rcases List.mem_append.1 m with z | z
          · exact .inl ⟨kw, z, e⟩
          · rw [List.mem_singleton.1 z] at e
            exact .inr ⟨e.1.symm, e.2.symm⟩
      refine key _ ?_
      unfold put1
      split
      · rename_i e
        rw [if_pos e]
      · rename_i v e
        obtain ⟨q, hq, e1, e2⟩ := (f _ _).1 e
        have : q.1 = r.1 := congrArg Prod.snd e1
        have ev : v = r.2 := by
          rw [← e2]
          exact cl q (List.mem_of_mem_take hq) r mr this
        rw [if_pos ev, if_neg (by rw [e]; exact fun z => by cases z)]
  obtain ⟨d, f⟩ := gen log.length (Nat.le_refl _)
  rw [List.take_length] at d f
  refine ⟨d, fun k o => (f k o).trans ⟨?_, ?_⟩⟩
  · rintro ⟨r, hr, e⟩
    exact ⟨r, hr, by rw [adv_nil L0 (hl r hr)]; exact e⟩
  · rintro ⟨r, hr, e⟩
    exact ⟨r, hr, by rw [adv_nil L0 (hl r hr)] at e; exact e⟩
section
variable {L n : Int} {log : Log}
theorem Cl.on {mv : List Int} {cl c : List (PK × Int)} {z : Int} (L0 : 0 ≤ L) (hm : ∀ z ∈ mv, 0 ≤ z) (hl : ∀ r ∈ log, Lt L r.1) (h : Cl L mv log cl) (e : moveOn L (mv ++ [z]) cl = some c) : Cl L (mv ++ [z]) log c := by
  obtain ⟨d, f⟩ := move_spec cl c e
  refine ⟨d, fun k o => (f k o).trans ⟨?_, ?_⟩⟩
  · rintro ⟨kv, m, e1, e2⟩
    obtain ⟨r, hr, a1, a2⟩ := (h.find _ _).1 (h.dist kv m)
    refine ⟨r, hr, ?_, a2.trans e2⟩
    rw [adv_adv L0 hm (Int.le_refl 0) (hl r hr), a1]
    exact e1
  · rintro ⟨r, hr, e1, e2⟩
    refine ⟨_, find_mem ((h.find _ _).2 ⟨r, hr, rfl, rfl⟩), ?_, e2⟩
    rw [adv_adv L0 hm (Int.le_refl 0) (hl r hr)] at e1
    exact e1
theorem longer_iff {x y : Part} : y ∈ longer L n x ↔ ∃ z : Int, 0 ≤ z ∧ z ≤ maxMet x.1 ∧ z < n ∧ y.1 = x.1 ++ [z] ∧ moveOn L y.1 x.2 = some y.2 := by
  unfold longer
  rw [List.mem_filterMap]
  constructor
  · rintro ⟨a, ha, e⟩
    have ha := List.mem_range.1 ha
    obtain ⟨c, e1, rfl⟩ := Option.map_eq_some_iff.1 e
    exact ⟨a, by omega, by omega, by omega, rfl, e1⟩
  · rintro ⟨z, z0, z1, z2, e1, e2⟩
    refine ⟨z.toNat, List.mem_range.2 (by omega), ?_⟩
    unfold tryOn
    have ez : ((z.toNat : Nat) : Int) = z := by omega
    rw [ez, ← e1, e2]
    rfl
theorem parts_cl (L0 : 0 ≤ L) (hl : ∀ r ∈ log, Lt L r.1) (cl : Clean log) : ∀ {k : Nat} {x : Part}, x ∈ parts L n log k → x.1.length = k ∧ Ord n x.1 ∧ Cl L x.1 log x.2
  | 0, x, h => by
    rw [List.mem_singleton.1 h]
    exact ⟨rfl, fun i z hz => absurd hz (by simp), start_cl L0 hl cl⟩
  | k + 1, x, h => by
    have h : x ∈ (parts L n log k).flatMap (longer L n) := h
    obtain ⟨y, hy, hx⟩ := List.mem_flatMap.1 h
    obtain ⟨a1, a2, a3⟩ := parts_cl L0 hl cl hy
    obtain ⟨z, z0, z1, z2, e1, e2⟩ := longer_iff.1 hx
    refine ⟨by rw [e1, List.length_append, a1]; rfl, by rw [e1]; exact Ord.snoc.2 ⟨a2, z0, z1, z2⟩, ?_⟩
    rw [e1] at e2 ⊢
    exact a3.on L0 (fun z hz => (a2.nn z hz).1) hl e2
theorem parts_has (L0 : 0 ≤ L) (hl : ∀ r ∈ log, Lt L r.1) (cl : Clean log) : ∀ {k : Nat} {mv : List Int}, mv.length = k → Ord n mv → NC L mv log → ∃ c, (mv, c) ∈ parts L n log k
  | 0, mv, e, _, _ => by
    rw [List.length_eq_zero_iff.1 e]
    exact ⟨_, List.mem_singleton.2 rfl⟩
  | k + 1, mv, e, o, nc => by
    obtain ⟨mw, z, rfl⟩ : ∃ mw z, mv = mw ++ [z] := by
      have ne : mv ≠ [] := fun q => by rw [q] at e; cases e
      exact ⟨_, _, (List.dropLast_concat_getLast ne).symm⟩
    obtain ⟨o1, z0, z1, z2⟩ := Ord.snoc.1 o
    have nn : ∀ z ∈ mw, 0 ≤ z := fun z hz => (o1.nn z hz).1
    obtain ⟨c, hc⟩ := parts_has L0 hl cl (k := k) (mv := mw) (by rw [List.length_append] at e; simpa using e) o1 (nc.pre L0 nn hl)
    have hcl := (parts_cl L0 hl cl hc).2.2
    cases em : moveOn L (mw ++ [z]) c with
    | some d =>
      refine ⟨d, ?_⟩
      show _ ∈ (parts L n log k).flatMap (longer L n)
      exact List.mem_flatMap.2 ⟨_, hc, longer_iff.2 ⟨z, z0, z1, z2, rfl, em⟩⟩
    | none =>
      obtain ⟨kv, h1, kw, h2, e1, e2⟩ := move_nc c em
      obtain ⟨r, hr, a1, a2⟩ := (hcl.find _ _).1 (hcl.dist kv h1)
      obtain ⟨q, hq, b1, b2⟩ := (hcl.find _ _).1 (hcl.dist kw h2)
      refine absurd (nc r hr q hq ?_) (by rw [a2, b2]; exact e2)
      rw [adv_adv L0 nn (Int.le_refl 0) (hl r hr), adv_adv L0 nn (Int.le_refl 0) (hl q hq), a1, b1]
      exact e1
theorem parts_nodup {k : Nat} : (parts L n log k).Pairwise fun x y => x.1 ≠ y.1 := by
  have len : ∀ k, ∀ x ∈ parts L n log k, x.1.length = k := by
    intro k
    induction k with
    | zero => exact fun x h => by rw [List.mem_singleton.1 h]; rfl
    | succ k ih =>
      intro x h
      have h : x ∈ (parts L n log k).flatMap (longer L n) := h
      obtain ⟨y, hy, hx⟩ := List.mem_flatMap.1 h
      obtain ⟨z, _, _, _, e1, _⟩ := longer_iff.1 hx
      rw [e1, List.length_append, ih y hy]
      rfl
  induction k with
  | zero => exact List.pairwise_singleton ..
  | succ k ih =>
    show ((parts L n log k).flatMap (longer L n)).Pairwise _
    rw [List.pairwise_flatMap]
    refine ⟨fun x hx => ?_, ?_⟩
    · unfold longer
      rw [List.pairwise_filterMap]
      refine List.Pairwise.imp ?_ List.nodup_range
      intro a b ne y hy z hz e
      obtain ⟨c, _, rfl⟩ := Option.map_eq_some_iff.1 hy
      obtain ⟨d, _, rfl⟩ := Option.map_eq_some_iff.1 hz
      have := List.append_cancel_left e
      have q := Option.some.inj (congrArg List.head? this)
      exact ne (Int.ofNat.inj q)
    · refine ih.imp_of_mem ?_
      intro a b ha hb ne x hx y hy e
      obtain ⟨z, _, _, _, e1, _⟩ := longer_iff.1 hx
      obtain ⟨z', _, _, _, e2, _⟩ := longer_iff.1 hy
      rw [e1, e2] at e
      exact ne (List.append_inj e (by rw [len k a ha, len k b hb])).1
theorem least_none : ∀ {f m : Nat}, least L log f m = none → ∀ j, m ≤ j → j < m + f → parts L j log (j * L.toNat) = []
  | 0, m, _, j, h1, h2 => by omega
  | f + 1, m, h, j, h1, h2 => by
    unfold least at h
    split at h
    · rename_i e
      by_cases c : j = m
      · rw [c]
        exact e
      · exact least_none h j (by omega) (by omega)
    · cases h
theorem least_some {ps : List Part} : ∀ {f m : Nat}, least L log f m = some ps → ∃ k : Nat, m ≤ k ∧ k < m + f ∧ ps = parts L k log (k * L.toNat) ∧ ps ≠ [] ∧ ∀ j : Nat, m ≤ j → j < k → parts L j log (j * L.toNat) = []
  | 0, m, h => by cases h
  | f + 1, m, h => by
    unfold least at h
    split at h
    · rename_i e
      obtain ⟨k, h1, h2, h3, h4, h5⟩ := least_some h
      refine ⟨k, by omega, by omega, h3, h4, fun j hj1 hj2 => ?_⟩
      by_cases c : j = m
      · rw [c]
        exact e
      · exact h5 j (by omega) hj2
    · rename_i p qs e
      cases h
      exact ⟨m, Nat.le_refl _, by omega, e.symm, (fun z => by cases z), fun j h1 h2 => by omega⟩
end
end K42

set_option Elab.async false
set_option linter.all false
set_option maxRecDepth 100000
set_option maxHeartbeats 4000000
namespace Mz
open PySem PySem.Spec PyProof.Rows L2
/-! ### machines that are numbered as met -/
theorem rep_ex {n : Nat} {R : Nat → Nat → Prop} (E : Eqv n R) : ∃ s, Rep R n s := by
  have h : ∀ i : Nat, ∃ g : Nat, LeastOf R i g := fun i => by
    obtain ⟨r, h1, h2, h3⟩ := least_of E i
    exact ⟨r, h1, h2, fun j hj z => h3 j hj (E.trans _ _ _ (E.symm _ _ h2) z)⟩
  refine ⟨(List.range n).map fun i => ((Classical.choose (h i) : Nat) : Int), by rw [List.length_map, List.length_range], fun i hi => ⟨Classical.choose (h i), ?_, Classical.choose_spec (h i)⟩⟩
  rw [List.getElem?_map, List.getElem?_range hi]
  rfl
theorem eqv_EqM (M : Mach) (n : Nat) : Eqv n (EqM M) := ⟨fun x v _ => rfl, fun x y h v a => (h v a).symm, fun x y z h1 h2 v a => (h1 v a).trans (h2 v a)⟩
/-- all moves, state by state -/
def flat (M : Mach) : List Int := M.rows.flatten
theorem flat_at {c : Nat} : ∀ {rows : List (List Int)} {s a : Nat}, (∀ w ∈ rows, w.length = c) → a < c → s < rows.length → rows.flatten[s * c + a]? = (rows.getD s [])[a]?
  | [], s, a, _, _, h => by cases h
  | w :: rows, 0, a, hw, ha, _ => by
    have := hw w List.mem_cons_self
    rw [List.flatten_cons, Nat.zero_mul, Nat.zero_add, List.getElem?_append_left (by omega)]
    rfl
  | w :: rows, s + 1, a, hw, ha, hs => by
    have := hw w List.mem_cons_self
    rw [List.flatten_cons, List.getElem?_append_right (by rw [Nat.succ_mul]; omega)]
    have e : (s + 1) * c + a - w.length = s * c + a := by rw [Nat.succ_mul]; omega
    rw [e, flat_at (fun w h => hw w (List.mem_cons_of_mem _ h)) ha (by simpa using hs)]
    rfl
theorem flat_lenc {c : Nat} : ∀ {rows : List (List Int)}, (∀ w ∈ rows, w.length = c) → rows.flatten.length = rows.length * c
  | [], _ => by simp
  | w :: rows, h => by
    rw [List.flatten_cons, List.length_append, h w List.mem_cons_self, flat_lenc fun w hw => h w (List.mem_cons_of_mem _ hw), List.length_cons, Nat.succ_mul]
    omega
theorem flat_take {c : Nat} : ∀ {rows : List (List Int)} {k : Nat}, (∀ w ∈ rows, w.length = c) → k ≤ rows.length → rows.flatten.take (k * c) = (rows.take k).flatten
  | rows, 0, _, _ => by simp
  | [], k + 1, _, h => by cases h
  | w :: rows, k + 1, hw, h => by
    have := hw w List.mem_cons_self
    have e : (k + 1) * c = w.length + k * c := by rw [Nat.succ_mul]; omega
    rw [List.flatten_cons, e, List.take_length_add_append, flat_take (fun w h => hw w (List.mem_cons_of_mem _ h)) (by simpa using h), List.take_succ_cons, List.flatten_cons]
/-- cutting into rows and putting together again -/
theorem flat_chunks {c : Nat} {mv : List Int} : ∀ k, ((List.range k).map fun s => (mv.drop (s * c)).take c).flatten = mv.take (k * c)
  | 0 => by simp
  | k + 1 => by
    rw [List.range_succ, List.map_append, List.flatten_append, flat_chunks k]
    show _ ++ ([(mv.drop (k * c)).take c]).flatten = _
    rw [Nat.succ_mul, List.take_add]
    simp
section
variable {M : Mach}
theorem Good.cl (g : Good M) : ∀ w ∈ M.rows, w.length = M.ls.toNat := fun w hw => by
  have := g.rl w hw
  omega
theorem Good.flatLen (g : Good M) : (flat M).length = M.rows.length * M.ls.toNat := flat_lenc g.cl
theorem Good.flatNext (g : Good M) {s a : Int} (hs : M.St s) (h0 : 0 ≤ a) (h1 : a < M.ls) : (flat M)[(s * M.ls + a).toNat]? = some (M.next s a) := by
  obtain ⟨_, w, e1, e2⟩ := g.step hs h0 h1
  have e : (s * M.ls + a).toNat = s.toNat * M.ls.toNat + a.toNat := by
    have e1 : ((s.toNat : Nat) : Int) = s := by have := hs.1; omega
    have e2 : ((M.ls.toNat : Nat) : Int) = M.ls := by have := g.l1; omega
    have e3 : ((s.toNat * M.ls.toNat : Nat) : Int) = s * M.ls := by rw [Int.natCast_mul, e1, e2]
    omega
  have l1 := hs.1
  have l2 := hs.2
  unfold flat
  rw [e, flat_at g.cl (by omega) (by omega), List.getD_eq_getElem?_getD, e1]
  exact e2
theorem Good.flatSt (g : Good M) : ∀ z ∈ flat M, M.St z := fun z hz => by
  obtain ⟨w, hw, h⟩ := List.mem_flatten.1 hz
  exact g.rb w hw z h
end
/-- the numbers met, one after the other -/
def metF (mv : List Int) : List Int := mv.foldl addC [0]
theorem metF_snoc {mv : List Int} {z : Int} : metF (mv ++ [z]) = addC (metF mv) z := by
  unfold metF
  rw [List.foldl_append]
  rfl
theorem metF_app {mv mw : List Int} : metF (mv ++ mw) = mw.foldl addC (metF mv) := by
  unfold metF
  rw [List.foldl_append]
theorem foldC_pre : ∀ (mw o : List Int), o <+: mw.foldl addC o
  | [], o => List.prefix_refl _
  | z :: mw, o => (addC_pre o z).trans (foldC_pre mw (addC o z))
theorem ids_mem {m : Nat} {z : Int} : z ∈ ids m ↔ 0 ≤ z ∧ z < m := by
  unfold ids
  rw [List.mem_map]
  constructor
  · rintro ⟨i, hi, rfl⟩
    have := List.mem_range.1 hi
    omega
  · rintro ⟨h0, h1⟩
    exact ⟨z.toNat, List.mem_range.2 (by omega), by omega⟩
theorem ids_succ {m : Nat} : ids (m + 1) = ids m ++ [(m : Int)] := by
  unfold ids
  rw [List.range_succ, List.map_append]
  rfl
theorem ids_inj {m k : Nat} (h : ids m = ids k) : m = k := by
  have := congrArg List.length h
  rwa [ids_len, ids_len] at this
theorem pre_ids {o : List Int} {n : Nat} (h : o <+: ids n) : o = ids o.length := by
  obtain ⟨t, e⟩ := h
  have l : o.length ≤ n := by
    have := congrArg List.length e
    rw [List.length_append, ids_len] at this
    omega
  refine List.ext_getElem? fun i => ?_
  by_cases c : i < o.length
  · rw [ids_get c, ← ids_get (n := n) (by omega), ← e, List.getElem?_append_left c]
  · rw [List.getElem?_eq_none (by omega), List.getElem?_eq_none (by rw [ids_len]; omega)]
theorem maxMet_snoc {mv : List Int} {z : Int} (hm : ∀ y ∈ mv, 0 ≤ y) (h0 : 0 ≤ z) : maxOr 0 (mv ++ [z]) = max (maxOr 0 mv) z := by
  cases mv with
  | nil =>
    show z = max 0 z
    omega
  | cons a mv =>
    show (mv ++ [z]).foldl max a = max (mv.foldl max a) z
    rw [List.foldl_append]
    rfl
/-- each number is met already or the next one -/
def OrdN (n : Int) (mv : List Int) : Prop := ∀ i z, mv[i]? = some z → 0 ≤ z ∧ z ≤ maxOr 0 (mv.take i) + 1 ∧ z < n
theorem OrdN.nil {n : Int} : OrdN n [] := fun i z h => by cases h
theorem OrdN.snoc {n : Int} {mv : List Int} {z : Int} : OrdN n (mv ++ [z]) ↔ OrdN n mv ∧ 0 ≤ z ∧ z ≤ maxOr 0 mv + 1 ∧ z < n := by
  constructor
  · intro h
    refine ⟨fun i y hy => ?_, ?_⟩
    · have lt := (List.getElem?_eq_some_iff.1 hy).1
      have := h i y (by rw [List.getElem?_append_left lt]; exact hy)
      rw [List.take_append_of_le_length (by omega)] at this
      exact this
    · have := h mv.length z (by simp)
      rw [List.take_append_of_le_length (by omega), List.take_length] at this
      exact this
  · rintro ⟨h, hz⟩ i y hy
    by_cases c : i < mv.length
    · rw [List.getElem?_append_left c] at hy
      rw [List.take_append_of_le_length (by omega)]
      exact h i y hy
    · rw [List.getElem?_append_right (by omega)] at hy
      have e0 : i - mv.length = 0 := by
        cases q : i - mv.length with
        | zero => rfl
        | succ m => rw [q] at hy; cases hy
      rw [e0] at hy
      cases hy
      rw [List.take_append_of_le_length (by omega), List.take_of_length_le (by omega)]
      exact hz
theorem OrdN.nn {n : Int} {mv : List Int} (h : OrdN n mv) : ∀ z ∈ mv, 0 ≤ z ∧ z < n := fun z hz => by
  obtain ⟨i, hi⟩ := List.mem_iff_getElem?.1 hz
  have := h i z hi
  exact ⟨this.1, this.2.2⟩
theorem OrdN.take {n : Int} {mv : List Int} (h : OrdN n mv) (k : Nat) : OrdN n (mv.take k) := fun i z hz => by
  rw [List.getElem?_take] at hz
  split at hz
  · rename_i c
    have := h i z hz
    rw [List.take_take, show min i k = i by omega]
    exact this
  · cases hz
theorem OrdN.few {n k : Int} {mv : List Int} (h : OrdN n mv) (b : ∀ z ∈ mv, z < k) : OrdN k mv := fun i z hz => ⟨(h i z hz).1, (h i z hz).2.1, b z (List.mem_of_getElem? hz)⟩
theorem OrdN.max {n : Int} (n1 : 1 ≤ n) {mv : List Int} (h : OrdN n mv) : 0 ≤ maxOr 0 mv ∧ maxOr 0 mv < n := by
  induction mv using snoc_ind with
  | h0 => exact ⟨Int.le_refl 0, by show (0 : Int) < n; omega⟩
  | hs mv z ih =>
    obtain ⟨a, b, c, d⟩ := OrdN.snoc.1 h
    have := ih a
    rw [maxMet_snoc (fun y hy => (a.nn y hy).1) b]
    omega
theorem OrdN.met {n : Int} {mv : List Int} (h : OrdN n mv) : metF mv = ids (maxOr 0 mv + 1).toNat := by
  induction mv using snoc_ind with
  | h0 => rfl
  | hs mv z ih =>
    obtain ⟨a, b, c, d⟩ := OrdN.snoc.1 h
    have mx := a.max (by omega)
    rw [metF_snoc, ih a, maxMet_snoc (fun y hy => (a.nn y hy).1) b]
    unfold addC
    by_cases q : z ≤ maxOr 0 mv
    · rw [if_pos (ids_mem.2 ⟨b, by omega⟩)]
      congr 1
      omega
    · rw [if_neg (fun y => by have := (ids_mem.1 y).2; omega)]
      have e : (Max.max (maxOr 0 mv) z + 1).toNat = (maxOr 0 mv + 1).toNat + 1 := by omega
      rw [e, ids_succ]
      congr 2
      omega
theorem ord_of {n : Nat} : ∀ {mv : List Int}, (∀ z ∈ mv, 0 ≤ z ∧ z < (n : Int)) → (∀ i, i ≤ mv.length → metF (mv.take i) <+: ids n) → OrdN n mv := by
  intro mv
  induction mv using snoc_ind with
  | h0 => exact fun _ _ => .nil
  | hs mv z ih =>
    intro hz h
    have ih := ih (fun y hy => hz y (List.mem_append_left _ hy)) fun i hi => by
      have := h i (by rw [List.length_append]; omega)
      rwa [List.take_append_of_le_length hi] at this
    have zb := hz z (List.mem_append_right _ List.mem_cons_self)
    refine OrdN.snoc.2 ⟨ih, zb.1, ?_, zb.2⟩
    have mx := ih.max (by omega)
    have := h (mv ++ [z]).length (Nat.le_refl _)
    rw [List.take_length, metF_snoc, ih.met] at this
    unfold addC at this
    by_cases q : z ≤ maxOr 0 mv
    · omega
    · rw [if_neg (fun y => by have := (ids_mem.1 y).2; omega)] at this
      have e := pre_ids this
      rw [List.length_append, ids_len, List.length_singleton, ids_succ] at e
      have := List.append_cancel_left e
      have := List.cons.inj this
      omega
section
variable {M : Mach}
theorem cls_ids {n : Nat} {z : Int} (h0 : 0 ≤ z) (h1 : z < n) : cls (ids n) z = z := by
  unfold cls
  rw [List.getD_eq_getElem?_getD, ids_get (by omega)]
  show ((z.toNat : Nat) : Int) = z
  omega
theorem step_ids {n : Nat} : ∀ {row o : List Int}, (∀ z ∈ row, 0 ≤ z ∧ z < (n : Int)) → ordStep (ids n) row o = row.foldl addC o
  | [], _, _ => rfl
  | z :: row, o, h => by
    have hz := h z List.mem_cons_self
    have ih := step_ids (n := n) (row := row) (o := addC o z) fun y hy => h y (List.mem_cons_of_mem _ hy)
    unfold ordStep at ih ⊢
    rw [List.foldl_cons, List.foldl_cons, cls_ids hz.1 hz.2]
    exact ih
/-- numbered as met: the order of meeting is that of the numbers -/
def InOrder (M : Mach) : Prop := ordAt M (ids M.rows.length) M.rows.length = ids M.rows.length
theorem row_met (g : Good M) {k : Nat} (hk : k < M.rows.length) : metF ((flat M).take ((k + 1) * M.ls.toNat)) = (M.rows.getD k []).foldl addC (metF ((flat M).take (k * M.ls.toNat))) := by
  unfold flat
  rw [flat_take g.cl (by omega), flat_take g.cl (by omega), take_more (List.getElem?_eq_getElem hk), List.flatten_append, metF_app, List.getD_eq_getElem?_getD, List.getElem?_eq_getElem hk]
  simp
theorem ordAt_met (g : Good M) : ∀ k, k ≤ M.rows.length → (∀ j, j < k → (ordAt M (ids M.rows.length) j)[j]? = some (j : Int)) → ordAt M (ids M.rows.length) k = metF ((flat M).take (k * M.ls.toNat))
  | 0, _, _ => by
    rw [Nat.zero_mul, List.take_zero]
    show [cls _ 0] = [0]
    rw [cls_ids (Int.le_refl 0) (by have := g.s1; omega)]
  | k + 1, hk, h => by
    have ih := ordAt_met g k (by omega) fun j hj => h j (by omega)
    have hk2 := h k (by omega)
    have lt := (List.getElem?_eq_some_iff.1 hk2).1
    rw [row_met g (by omega), ← ih]
    show (if k < (ordAt M (ids M.rows.length) k).length then _ else _) = _
    have gk : (ordAt M (ids M.rows.length) k).getD k 0 = (k : Int) := by
      rw [List.getD_eq_getElem?_getD, hk2]
      rfl
    rw [if_pos lt, gk, Int.toNat_natCast]
    refine step_ids fun z hz => ?_
    rw [List.getD_eq_getElem?_getD, List.getElem?_eq_getElem (by omega)] at hz
    exact g.rb _ (List.getElem_mem _) z hz
theorem InOrder.here (h : InOrder M) {k : Nat} (hk : k < M.rows.length) : (ordAt M (ids M.rows.length) k)[k]? = some (k : Int) := by
  have pre : ordAt M (ids M.rows.length) k <+: ids M.rows.length := by
    have := ord_pre (M := M) (G := ids M.rows.length) k (M.rows.length - k)
    rw [show k + (M.rows.length - k) = M.rows.length by omega, h] at this
    exact this
  have e := pre_ids pre
  have lt : k < (ordAt M (ids M.rows.length) k).length := by
    refine Classical.byContradiction fun no => ?_
    have st := ord_stop (M := M) (G := ids M.rows.length) (k := k) (by omega) M.rows.length (by omega)
    have := congrArg List.length (h.symm.trans st)
    rw [ids_len] at this
    omega
  rw [e, ids_get lt]
theorem InOrder.ord (g : Good M) (h : InOrder M) : OrdN M.rows.length (flat M) := by
  have l1 := g.l1
  refine ord_of (fun z hz => g.flatSt z hz) fun i hi => ?_
  have all := ordAt_met g M.rows.length (Nat.le_refl _) fun j hj => h.here hj
  rw [h, ← g.flatLen, List.take_length] at all
  rw [all]
  have : flat M = (flat M).take i ++ (flat M).drop i := (List.take_append_drop i _).symm
  rw [this, metF_app]
  rw [← this]
  exact foldC_pre _ _
/-- what is numbered one after the other and never closed too early is in order -/
theorem ord_inorder (g : Good M) (o : OrdN M.rows.length (flat M)) (open' : ∀ k : Nat, 1 ≤ k → k < M.rows.length → ∃ z ∈ (flat M).take (k * M.ls.toNat), (k : Int) ≤ z) : InOrder M := by
  have n1 := g.s1
  have big : ∀ k : Nat, k < M.rows.length → k < (maxOr 0 ((flat M).take (k * M.ls.toNat)) + 1).toNat := by
    intro k hk
    have mx := (o.take (k * M.ls.toNat)).max (by omega)
    by_cases c : k = 0
    · omega
    · obtain ⟨z, hz, le⟩ := open' k (by omega) hk
      have m : z ∈ metF ((flat M).take (k * M.ls.toNat)) := by
        have gen : ∀ (mv o : List Int), z ∈ mv → z ∈ mv.foldl addC o := by
          intro mv
          induction mv with
          | nil => exact fun o h => absurd h (by simp)
          | cons a mv ih =>
            intro o h
            rcases List.mem_cons.1 h with q | q
            · rw [List.foldl_cons, q]
              refine (foldC_pre mv (addC o a)).subset ?_
              unfold addC
              split
              · assumption
              · exact List.mem_append_right _ List.mem_cons_self
            · exact ih _ q
        exact gen _ _ hz
      rw [(o.take _).met, ids_mem] at m
      omega
  have here : ∀ k, k ≤ M.rows.length → ordAt M (ids M.rows.length) k = metF ((flat M).take (k * M.ls.toNat)) := by
    intro k
    induction k using Nat.strongRecOn with
    | _ k ih =>
      intro hk
      refine ordAt_met g k hk fun j hj => ?_
      rw [ih j hj (by omega), (o.take _).met, ids_get (big j (by omega))]
  unfold InOrder
  have fin := here M.rows.length (Nat.le_refl _)
  rw [← g.flatLen, List.take_length, o.met] at fin
  have mx := o.max (by omega)
  rw [fin]
  congr 1
  by_cases c : M.rows.length = 1
  · omega
  · have b := big (M.rows.length - 1) (by omega)
    have m2 : maxOr 0 ((flat M).take ((M.rows.length - 1) * M.ls.toNat)) ≤ maxOr 0 (flat M) := by
      have e := congrArg List.length (o.take ((M.rows.length - 1) * M.ls.toNat)).met
      have f := congrArg List.length o.met
      rw [ids_len] at e f
      have : flat M = (flat M).take ((M.rows.length - 1) * M.ls.toNat) ++ (flat M).drop ((M.rows.length - 1) * M.ls.toNat) := (List.take_append_drop _ _).symm
      have p := (foldC_pre ((flat M).drop ((M.rows.length - 1) * M.ls.toNat)) (metF ((flat M).take ((M.rows.length - 1) * M.ls.toNat)))).length_le
      rw [← metF_app, ← this, e, f] at p
      have mx1 := (o.take ((M.rows.length - 1) * M.ls.toNat)).max (by omega)
      omega
    omega
/-- a machine with all its classes apart, numbered as met, is its own least machine -/
theorem ids_self (g : Good M) : leastBy M (ids M.rows.length) (ids M.rows.length) = M := by
  obtain ⟨l, os, rows, outs⟩ := M
  unfold leastBy
  have e1 : (ids rows.length).map (fun c => (rows.getD c.toNat []).map fun z => (((ids rows.length).findIdx fun y => decide (y = cls (ids rows.length) z) : Nat) : Int)) = rows := by
    refine List.ext_getElem? fun i => ?_
    rw [List.getElem?_map]
    by_cases c : i < rows.length
    · rw [ids_get c, List.getElem?_eq_getElem c]
      show some ((rows.getD ((i : Int)).toNat []).map _) = _
      rw [Int.toNat_natCast, List.getD_eq_getElem?_getD, List.getElem?_eq_getElem c]
      show some (rows[i].map _) = some rows[i]
      congr 1
      have rb := g.rb rows[i] (List.getElem_mem c)
      refine (List.map_congr_left fun z hz => ?_).trans (List.map_id _)
      have b := rb z hz
      have b2 : z < (rows.length : Int) := b.2
      rw [cls_ids b.1 b2]
      have nd : (ids rows.length).Nodup := by
        unfold ids
        refine List.Pairwise.map _ ?_ List.nodup_range
        intro a b ne e
        exact ne (Int.ofNat.inj e)
      have := plc_get nd (i := z.toNat) (c := z) (by rw [ids_get (by omega)]; congr 1; omega)
      show ((plc (ids rows.length) z : Nat) : Int) = z
      rw [this]
      omega
    · rw [List.getElem?_eq_none (by rw [ids_len]; omega), List.getElem?_eq_none (by omega)]
      rfl
  have e2 : (ids rows.length).map (fun c => Mach.out ⟨l, os, rows, outs⟩ c) = outs := by
    have ol : outs.length = rows.length := g.ol
    refine List.ext_getElem? fun i => ?_
    rw [List.getElem?_map]
    by_cases c : i < rows.length
    · rw [ids_get c, List.getElem?_eq_getElem (by omega)]
      show some (outs.getD ((i : Int)).toNat 0) = _
      rw [Int.toNat_natCast, List.getD_eq_getElem?_getD, List.getElem?_eq_getElem (by omega)]
      rfl
    · rw [List.getElem?_eq_none (by rw [ids_len]; omega), List.getElem?_eq_none (by omega)]
      rfl
  show Mach.mk l os _ _ = _
  rw [e1, e2]
/-- a machine in order that answers like a least one with as many states is that one -/
theorem inorder_eq {N : Mach} (F : Full M) (iM : InOrder M) (gN : Good N) (iN : InOrder N) (ls : M.ls = N.ls) (os : M.os = N.os) (n : N.rows.length = M.rows.length) (s : Sim M N 0 0) : N = M := by
  obtain ⟨G, rG⟩ := rep_ex (eqv_EqM N N.rows.length)
  have rM := full_rep F
  have l := least_all ls os F.good gN rM rG s
  rw [iM, ids_self F.good] at l
  have len : (ordAt N G N.rows.length).length = N.rows.length := by
    have := congrArg (fun M : Mach => M.rows.length) l
    have e : M.rows.length = (leastBy N G (ordAt N G N.rows.length)).rows.length := this
    rw [leastBy_len] at e
    omega
  obtain ⟨nd, rp⟩ := ord_ok gN rG N.rows.length
  have G0 : G = ids N.rows.length := by
    have all : ∀ i : Nat, i < N.rows.length → (i : Int) ∈ ordAt N G N.rows.length := by
      intro i hi
      refine Classical.byContradiction fun no => ?_
      have := nodup_few N.rows.length (i :: (ordAt N G N.rows.length).map Int.toNat) ?_ ?_
      · rw [List.length_cons, List.length_map, len] at this
        omega
      · rw [List.nodup_cons]
        refine ⟨fun z => ?_, ?_⟩
        · obtain ⟨c, hc, e⟩ := List.mem_map.1 z
          have b := (rp c hc).1.1
          exact no (by rw [show (i : Int) = c by omega]; exact hc)
        · refine List.Pairwise.map _ ?_ (List.Pairwise.and_mem.1 nd)
          intro a b h e
          have b1 := (rp a h.1).1.1
          have b2 := (rp b h.2.1).1.1
          exact h.2.2 (by omega)
      · intro x hx
        rcases List.mem_cons.1 hx with z | z
        · omega
        · obtain ⟨c, hc, rfl⟩ := List.mem_map.1 z
          have b := (rp c hc).1
          have := b.1
          have := b.2
          omega
    refine List.ext_getElem? fun i => ?_
    by_cases c : i < N.rows.length
    · have e := (rp _ (all i c)).2
      obtain ⟨k, hk, _⟩ := rG.2 i c
      unfold cls at e
      rw [Int.toNat_natCast, List.getD_eq_getElem?_getD, hk] at e
      have e : (k : Int) = i := e
      rw [hk, ids_get c, e]
    · rw [List.getElem?_eq_none (by rw [rG.1]; omega), List.getElem?_eq_none (by rw [ids_len]; omega)]
  rw [G0, iN, ids_self gN] at l
  exact l.symm
/-- a machine that answers like a least one has no fewer states -/
theorem full_few {N : Mach} (F : Full M) (gN : Good N) (ls : M.ls = N.ls) (os : M.os = N.os) (s : Sim M N 0 0) : M.rows.length ≤ N.rows.length := by
  obtain ⟨G, rG⟩ := rep_ex (eqv_EqM N N.rows.length)
  have l := least_all ls os F.good gN (full_rep F) rG s
  have := congrArg (fun M : Mach => M.rows.length) l
  have e : (leastBy M (ids M.rows.length) (ordAt M (ids M.rows.length) M.rows.length)).rows.length = (leastBy N G (ordAt N G N.rows.length)).rows.length := this
  rw [leastBy_len, leastBy_len, full_len F (full_rep F)] at e
  have := ord_len gN rG N.rows.length
  omega
end
end Mz

set_option Elab.async false
set_option linter.all false
set_option maxRecDepth 100000
set_option maxHeartbeats 4000000
namespace K42
open PySem PySem.Spec PyProof.Rows L2 Mz
/-- the machine of rows -/
def machR (L O : Int) (rs : List (List Int)) : Mach := ⟨L, O, rs.map List.tail, rs.map fun r => r.headD 0⟩
theorem OutAt.ma {H : Hp} {q : Addr} {L O : Int} {rs : List (List Int)} (h : OutAt H q L O rs) : MA H q (machR L O rs) := by
  obtain ⟨a, b, e, ⟨ts, e2, r⟩, eb⟩ := h
  exact ⟨a, b, ts, e, e2, eb, r.1, fun i t w p q => r.2 i t w p q⟩
/-- the machine has what the log says -/
def FitsL (M : Mach) (log : Log) : Prop := ∀ r ∈ log, M.out (M.run 0 r.1) = r.2
theorem adv_run {M : Mach} (g : Good M) : ∀ {w : List Int} {s : Int}, M.St s → Lt M.ls w → adv M.ls (flat M) s w = (M.run s w, [])
  | [], s, _, _ => rfl
  | a :: w, s, hs, hw => by
    have ha := hw a List.mem_cons_self
    have fn := g.flatNext hs ha.1 ha.2
    have lt := (List.getElem?_eq_some_iff.1 fn).1
    have p0 : 0 ≤ s * M.ls + a := by
      have := Int.mul_nonneg hs.1 (show 0 ≤ M.ls by have := g.l1; omega)
      omega
    show (if s * M.ls + a < ((flat M).length : Int) then _ else _) = _
    rw [if_pos (by omega), List.getD_eq_getElem?_getD, fn]
    show adv M.ls (flat M) (M.next s a) w = _
    rw [adv_run g (g.step hs ha.1 ha.2).1 fun z hz => hw z (List.mem_cons_of_mem _ hz)]
    rfl
theorem fits_nc {M : Mach} (g : Good M) {log : Log} (hl : ∀ r ∈ log, Lt M.ls r.1) (f : FitsL M log) : NC M.ls (flat M) log := fun r hr q hq e => by
  rw [adv_run g g.st0 (hl r hr), adv_run g g.st0 (hl q hq)] at e
  have := congrArg Prod.fst e
  have e2 : M.run 0 r.1 = M.run 0 q.1 := this
  rw [← f r hr, ← f q hq, e2]
section
variable {L O : Int} {n : Nat} {log : Log}
theorem rowsOf_len {x : Part} (L1 : 1 ≤ L) (e : x.1.length = n * L.toNat) : (rowsOf L x).length = n := by
  unfold rowsOf
  rw [List.length_map, List.length_range, e]
  exact Nat.mul_div_cancel _ (by omega)
theorem mach_flat {x : Part} (L1 : 1 ≤ L) (e : x.1.length = n * L.toNat) : flat (machR L O (rowsOf L x)) = x.1 := by
  have e2 : (machR L O (rowsOf L x)).rows = (List.range n).map fun s => (x.1.drop (s * L.toNat)).take L.toNat := by
    show (rowsOf L x).map List.tail = _
    unfold rowsOf
    rw [List.map_map, e, Nat.mul_div_cancel _ (by omega)]
    rfl
  unfold flat
  rw [e2, flat_chunks, ← e, List.take_length]
theorem mach_good {x : Part} (inR : InRange L O log) (n1 : 1 ≤ n) (n4 : n ≤ 4) (e : x.1.length = n * L.toNat) (o : OrdN n x.1) (c : Cl L x.1 log x.2) : Good (machR L O (rowsOf L x)) := by
  have L1 := inR.1.1
  have len : (machR L O (rowsOf L x)).rows.length = n := by
    show ((rowsOf L x).map List.tail).length = n
    rw [List.length_map, rowsOf_len L1 e]
  have rl : ∀ w ∈ (machR L O (rowsOf L x)).rows, w.length = L.toNat := by
    intro w hw
    obtain ⟨r, hr, rfl⟩ := List.mem_map.1 hw
    obtain ⟨s, hs, rfl⟩ := List.mem_map.1 hr
    have hs := List.mem_range.1 hs
    rw [e, Nat.mul_div_cancel _ (by omega)] at hs
    show ((x.1.drop (s * L.toNat)).take L.toNat).length = _
    rw [List.length_take, List.length_drop, e]
    have := Nat.mul_le_mul_right L.toNat hs
    rw [Nat.succ_mul] at this
    omega
  have fl := mach_flat (O := O) L1 e
  refine ⟨L1, by have := inR.1.2; show L ≤ 4; omega, inR.2.1.1, inR.2.1.2, by omega, by omega, ?_, fun w hw => ?_, fun w hw z hz => ?_, fun z hz => ?_⟩
  · show ((rowsOf L x).map _).length = ((rowsOf L x).map _).length
    rw [List.length_map, List.length_map]
  · rw [rl w hw]
    show ((L.toNat : Nat) : Int) = L
    omega
  · rw [len]
    have : z ∈ x.1 := by
      rw [← fl]
      exact List.mem_flatten.2 ⟨w, hw, hz⟩
    exact o.nn z this
  · obtain ⟨r, hr, rfl⟩ := List.mem_map.1 hz
    obtain ⟨s, hs, rfl⟩ := List.mem_map.1 hr
    show 0 ≤ (findK x.2 ((s : Int), [])).getD 0 ∧ (findK x.2 ((s : Int), [])).getD 0 < O
    cases q : findK x.2 ((s : Int), []) with
    | none => exact ⟨Int.le_refl 0, by show (0 : Int) < O; have := inR.2.1.1; omega⟩
    | some v =>
      obtain ⟨r, hr, _, rfl⟩ := (c.find _ _).1 q
      exact (inR.2.2.2 r hr).2
theorem mach_out {x : Part} (L1 : 1 ≤ L) (e : x.1.length = n * L.toNat) {s : Int} (h0 : 0 ≤ s) (h1 : s < n) : (machR L O (rowsOf L x)).out s = (findK x.2 (s, [])).getD 0 := by
  show ((rowsOf L x).map fun r => r.headD 0).getD s.toNat 0 = _
  have e2 : (rowsOf L x)[s.toNat]? = some (rowOf L x s.toNat) := by
    unfold rowsOf
    rw [List.getElem?_map, List.getElem?_range (by rw [e, Nat.mul_div_cancel _ (by omega)]; omega)]
    rfl
  rw [List.getD_eq_getElem?_getD, List.getElem?_map, e2]
  show (findK x.2 (((s.toNat : Nat) : Int), [])).getD 0 = _
  rw [show ((s.toNat : Nat) : Int) = s by omega]
/-- what a whole part is: a machine that fits -/
structure PM (L O : Int) (n : Nat) (log : Log) (x : Part) (M : Mach) : Prop where
  eq : M = machR L O (rowsOf L x)
  good : Good M
  ls : M.ls = L
  os : M.os = O
  len : M.rows.length = n
  flt : flat M = x.1
  ord : OrdN n x.1
  fits : FitsL M log
  cl : Cl L x.1 log x.2
theorem part_mach (inR : InRange L O log) (cl : Clean log) (n1 : 1 ≤ n) (n4 : n ≤ 4) {x : Part} (h : x ∈ parts L n log (n * L.toNat)) : PM L O n log x (machR L O (rowsOf L x)) := by
  have L1 := inR.1.1
  have hl : ∀ r ∈ log, Lt L r.1 := fun r hr => (inR.2.2.2 r hr).1.1
  obtain ⟨e, o, c⟩ := parts_cl (by omega) hl cl h
  have g := mach_good inR n1 n4 e o c
  have len : (machR L O (rowsOf L x)).rows.length = n := by
    show ((rowsOf L x).map List.tail).length = n
    rw [List.length_map, rowsOf_len L1 e]
  refine ⟨rfl, g, rfl, rfl, len, mach_flat L1 e, o, fun r hr => ?_, c⟩
  have st := g.runs (w := r.1) g.st0 (hl r hr)
  have l2 := st.2
  rw [len] at l2
  rw [mach_out L1 e st.1 l2]
  have ar := adv_run g (w := r.1) g.st0 (hl r hr)
  rw [mach_flat L1 e] at ar
  rw [(c.find _ _).2 ⟨r, hr, ar, rfl⟩]
  rfl
theorem has_part (inR : InRange L O log) (cl : Clean log) {M : Mach} (g : Good M) (ls : M.ls = L) (o : OrdN M.rows.length (flat M)) (f : FitsL M log) : ∃ c, (flat M, c) ∈ parts L M.rows.length log (M.rows.length * L.toNat) := by
  have L1 := inR.1.1
  have hl : ∀ r ∈ log, Lt L r.1 := fun r hr => (inR.2.2.2 r hr).1.1
  refine parts_has (by omega) hl cl (by rw [g.flatLen, ls]) o ?_
  have := fits_nc g (by rw [ls]; exact hl) f
  rwa [ls] at this
/-- if no smaller machine fits, each part is in order -/
theorem part_inorder (inR : InRange L O log) (cl : Clean log) {M : Mach} {x : Part} (p : PM L O n log x M) (small : ∀ j : Nat, 1 ≤ j → j < n → parts L j log (j * L.toNat) = []) : InOrder M := by
  have L1 := inR.1.1
  have hl : ∀ r ∈ log, Lt L r.1 := fun r hr => (inR.2.2.2 r hr).1.1
  have g := p.good
  refine ord_inorder g (by rw [p.len, p.flt]; exact p.ord) fun k k1 k2 => ?_
  refine Classical.byContradiction fun no => ?_
  rw [p.len] at k2
  rw [p.flt, p.ls] at no
  have lt : k * L.toNat ≤ x.1.length := by
    have e := g.flatLen
    rw [p.flt, p.ls, p.len] at e
    rw [e]
    exact Nat.mul_le_mul_right _ (by omega)
  have o2 : OrdN k (x.1.take (k * L.toNat)) := (p.ord.take _).few fun z hz => Classical.byContradiction fun q => no ⟨z, hz, by omega⟩
  have nc : NC L (x.1.take (k * L.toNat) ++ x.1.drop (k * L.toNat)) log := by
    rw [List.take_append_drop]
    exact p.cl.nc
  obtain ⟨c, hc⟩ := parts_has (n := (k : Int)) (by omega) hl cl (k := k * L.toNat) (mv := x.1.take (k * L.toNat)) (by rw [List.length_take]; omega) o2 (nc.pre (by omega) (fun z hz => (o2.nn z hz).1) hl)
  rw [small k k1 k2] at hc
  cases hc
end
end K42

set_option Elab.async false
set_option linter.all false
set_option maxRecDepth 100000
set_option maxHeartbeats 4000000
namespace K42
open PySem PySem.Spec PyProof.Rows L2 Mz
theorem pe_indexDK {X : Cx} {K : PySem.W.Frag} {o e : Expr} {to : TE} {t : TA} {apos cpos : Pos} (hK : X.K = K) (hu : X.A.units + 65 < cLine) (ho : PE X o to) (ha : PA X [e] t)
    (hbase : attributeBase o "index" X.env (eval o X.env) = eval o X.env := by rfl)
    (hfew : ((backTo cpos (starEach [e] X.env)).all (fun x => !x.1) && (backToKw cpos (keywordEach [] X.env)).all (fun x => x.1.isSome)
      && decide ([e].length + ([] : List Keyword).length + (if ([] : List Keyword).isEmpty then 0 else 1) < 30)) = true := by rfl)
    (hline : (apos.endLine == cpos.line) = true := by rfl) (hs : starEach [e] X.env = (false, eval e X.env) :: starEach [] X.env := by rfl) (hplain : (backTo cpos (starEach [] X.env)).any (·.1) = false := by rfl) :
    PE X (.Call (.Attribute o "index" apos) [e] [] cpos) (tBM K "list" (rIndexD K) to t) := by
  subst hK
  exact pe_bm PySem.F.plainAttrs_list PySem.F.slot_list_index PySem.F.type_list_index (mt_indexD hu) ho ha hbase hfew hline hs hplain
def spLStates (P1 : Addr) : Sp := fun vs H Q _ => ∃ (L O : Int) (l : Addr) (log : Log), vs = [.int L, .int O, .ref l] ∧ LogAt H l log ∧ GxR.TabG H P1 ∧ InRange L O log ∧ Clean log ∧
  ∀ (H' : Hp) (n : Int), Kp P1 H H' → (n = 99 ∨ ∃ M : Mach, Good M ∧ M.ls = L ∧ FitsL M log ∧ n = M.rows.length) → Q (.int n) H'
section
variable {P : Program} {w : World} {K : PySem.W.Frag} {mg : Str → Option Value} {base : Heap} {A : Ads} {c1 c2 c3 P1 P2 P3 : Addr}
theorem ok_lstates (T : Txt K mg A) (TB1 : GxR.TabB base mg c1 P1) (hc1 : A.d_are_below.code = .ref c1) : FnOk P w K mg base CX0 5 A.a_law_states A.d_law_states ["letters", "outs", "log"] (spLStates P1) := by
  have G_smallest : FnOk P w K mg base (L2N.CX P w) 4 A.a_smallest A.d_smallest ["letters", "outs", "log"] (spSmallest A P1) := ok_smallest T TB1 hc1
  refine T.F_law_states.ok sc_law_states (fun vs H Q E h => ?_) (fun cdv Ar outer s H vs Q E hr h => ?_)
  · obtain ⟨_, _, _, _, rfl, _⟩ := h
    rfl
  · have hr_smallest : Room 4 _ := hr
    refine ⟨_, (pss_one (L2N.ps_try_many rfl rfl takesN (fun W pn xe tk po => (pss_one (ps_ret (pe_callB (r := rLenK K) call_lenK (by rfl) T.n_len PySem.boot_len (pa_cons (pe_ix (r := rIx K) ix_seq (pe_callS G_smallest hr_smallest (by rfl) T.g_smallest T.F_smallest.kp T.b_smallest (fun σ => L2N.passAt tk σ) (pa_cons (pv 0) (pa_cons (pv 1) (pa_cons (pv 2) pa_nil)))) pe_int (fun _ _ => rfl)) pa_nil))))) (.cons ⟨rfl, by decide, Or.inl T.g_Missing⟩ (fun a oe cls d pn hz hf => (pss_one (ps_ret pe_int))) .nil))), ?_⟩
    obtain ⟨L, O, l, log, rfl, hl, t1, inR, cl, fin⟩ := h
    refine ⟨_, rfl, _, rfl, _, rfl, L, O, l, log, rfl, hl, t1, fun H1 k1 => ⟨fun z => absurd inR z, fun _ z => absurd cl z, fun _ _ no => ?_, fun p ps x q _ _ e0 mx hmin oa => ?_⟩⟩
    · exact ⟨true, exm_own T.E_Missing T.ty_Missing T.su_Missing_Missing, fun _ _ _ => fin H1 99 k1 (.inl rfl), fun z => Bool.noConfusion z⟩
    · obtain ⟨k, hk1, hk5, ep, _, _⟩ := least_some e0
      have pm := part_mach inR cl hk1 (by omega) (x := x) (by rw [← ep]; exact mx)
      obtain ⟨u, v, h1, h2, h3⟩ := oa
      refine .inr (.inl ⟨q, _, 3, .ref v, rfl, rfl, SqT.of h1, rfl, ?_⟩)
      refine ⟨v, _, rfl, .inr (SqT.of h3), ?_⟩
      rw [List.length_map, List.length_map]
      refine fin H1 _ k1 (.inr ⟨_, pm.good, pm.ls, pm.fits, ?_⟩)
      show ((rowsOf L x).length : Int) = (((rowsOf L x).map List.tail).length : Int)
      rw [List.length_map]
theorem ifJoinS {t : TT} {body u : TS} {D : Ends} {σ : L2.St} {H : Hp} (Mid : L2.St → Hp → Prop) (h1 : (∀ σ' H', Mid σ' H' → u D σ' H') → t σ H fun b H2 => if b = true then body { D with nx := u D } σ H2 else u D σ H2) (h : ∀ σ' H', Mid σ' H' → u D σ' H') : tSeq (tIfS t body tNext) u D σ H := h1 h
def Tails (log : Log) (b : List Int) (T : Log) : Prop := ∀ t o, (t, o) ∈ T ↔ DL log b t o
theorem Tails.fn {log : Log} (cl : Clean log) {b : List Int} {T : Log} (h : Tails log b T) : ∀ t o o', (t, o) ∈ T → (t, o') ∈ T → o' = o := fun t o o' h1 h2 => cl _ ((h t o').1 h2) _ ((h t o).1 h1) rfl
theorem at_ref {es : List Addr} {k : Nat} {e : Addr} (h : es[k]? = some e) : atI (es.map V.ref) ((0 : Int) + (k : Int)) = some (.ref e) := by
  rw [Int.zero_add]
  exact atI_nat (getV h)
def TD (H : Hp) (d : Addr) (T : Log) : Prop := H d = some (.dT (kvsO T))
def spListGood : Sp := fun vs H Q _ => ∃ (a b c : Addr) (as cs ds : List Addr) (log : Log) (ws bs : List (List Int)) (Ts : List Log), vs = [.ref a, .ref b, .ref c] ∧ H a = some (.lst (as.map V.ref)) ∧ LL H as ws ∧ H b = some (.lst (cs.map V.ref)) ∧ LL H cs bs ∧ H c = some (.lst (ds.map V.ref)) ∧ Rel TD H ds Ts ∧ Ts.length = bs.length ∧ (∀ (i : Nat) (b : List Int) (T : Log), bs[i]? = some b → Ts[i]? = some T → ∀ t o, (t, o) ∈ T ↔ DL log b t o) ∧ Clean log ∧ GoodList log bs ws ∧ bs.length ≤ 331 ∧ bs.Nodup ∧
  ∀ H', Same H H' → Q (.bl true) H'
theorem ok_listgood (T : Txt K mg A) : FnOk P w K mg base CX0 2 A.a_law_list_good A.d_law_list_good ["words", "starts", "tails"] spListGood := by
  have G_law_clash : FnOk P w K mg base CX0 1 A.a_law_clash A.d_law_clash ["first", "second"] spLClash := ok_lclash T
  refine T.F_law_list_good.ok sc_law_list_good (fun vs H Q E h => ?_) (fun cdv Ar outer s H vs Q E hr h => ?_)
  · obtain ⟨_, _, _, _, _, _, _, _, _, _, rfl, _⟩ := h
    rfl
  · have hr_law_clash : Room 1 _ := hr
    refine ⟨_, (pss_cons (ps_setLc (i := 3) (own := [("word", 6)]) (g := (gName 6)) (tt := tYes) rfl sc_law_list_good.nd rfl rfl (sw_true rfl rfl rfl (by decide +kernel)) (pi_list (pv 0)) (blkOk_by (N := ["words", "starts", "tails", "chosen", "k", "j", "word", "one"]) (sc := defScope s_law_list_good) (by decide +kernel)) (fun _ _ _ _ _ => (pg_name (i := 6) sc_law_list_good.nd rfl (Or.inl rfl))) (fun _ _ _ _ _ => pts_nil) (fun _ _ _ _ _ => (pe_ix (r := rIx K) ix_seq (pv 2) (pe_indexDK (K := K) rfl (hu65 hr) (pv 1) (pa_cons (pv 6) pa_nil)) (fun _ _ => rfl))))
      (pss_cons (ps_for PassesOwn.never rfl (pi_range1 (by rfl) T.n_range (pa_cons (pe_callB call_len_seq (by rfl) T.n_len PySem.boot_len (pa_cons (pv 3) pa_nil)) pa_nil)) (pg_name (i := 4) sc_law_list_good.nd rfl (Or.inr rfl))
        (pss_one (ps_for PassesOwn.never rfl (pi_range1 (by rfl) T.n_range (pa_cons (pv 4) pa_nil)) (pg_name (i := 5) sc_law_list_good.nd rfl (Or.inl rfl))
            (pss_one (ps_if (pt_not (pt_val (pe_call G_law_clash hr_law_clash (by rfl) T.g_law_clash T.F_law_clash.kp T.b_law_clash .nil pass0 (pa_cons (pe_ix (r := rIx K) ix_seq (pv 3) (pv 5) (fun _ _ => rfl)) (pa_cons (pe_ix (r := rIx K) ix_seq (pv 3) (pv 4) (fun _ _ => rfl)) pa_nil))))) (pss_one (ps_ret pe_bl)) pss_nil)))))
      (pss_cons (ps_for PassesOwn.never rfl (pi_range1 (by rfl) T.n_range (pa_cons (pe_callB call_len_seq (by rfl) T.n_len PySem.boot_len (pa_cons (pv 1) pa_nil)) pa_nil)) (pg_name (i := 4) sc_law_list_good.nd rfl (Or.inr rfl))
        (pss_one (ps_if (PW.pt (pw_and (pt_cmpR (op_notInD (hu65 hr)) (pe_ix (r := rIx K) ix_seq (pv 1) (pv 4) (fun _ _ => rfl)) (pv 0) rfl) (pw_and1 (pt_cmpR op_eq (pe_callB call_len_seq (by rfl) T.n_len PySem.boot_len (pa_cons (pe_lc (own := [("one", 7)]) (g := (gName 7)) rfl sc_law_list_good.nd (pi_list (pv 3)) (blkOk_by (N := ["words", "starts", "tails", "chosen", "k", "j", "word", "one"]) (sc := defScope s_law_list_good) (by decide +kernel)) (fun _ _ _ _ _ => (pg_name (i := 7) sc_law_list_good.nd rfl (Or.inl rfl))) (fun _ _ _ _ _ => (pts_one (pt_not (pt_val (pe_call G_law_clash hr_law_clash (by rfl) T.g_law_clash T.F_law_clash.kp T.b_law_clash .nil pass0 (pa_cons (pv 7) (pa_cons (pe_ix (r := rIx K) ix_seq (pv 2) (pv 4) (fun _ _ => rfl)) pa_nil))))))) (fun _ _ _ _ _ => (pv 7))) pa_nil)) pe_int (nomark _))))) (pss_one (ps_ret pe_bl)) pss_nil)))
      (pss_cons (ps_if (pt_cmpR op_lt (pe_callB (r := rLenK K) call_lenK (by rfl) T.n_len PySem.boot_len (pa_cons (pv 0) pa_nil)) pe_int (nomark _)) (pss_one (ps_for PassesOwn.never rfl (pi_range1 (by rfl) T.n_range (pa_cons (pe_callB call_len_seq (by rfl) T.n_len PySem.boot_len (pa_cons (pv 1) pa_nil)) pa_nil)) (pg_name (i := 4) sc_law_list_good.nd rfl (Or.inr rfl))
            (pss_one (ps_for PassesOwn.never rfl (pi_range1 (by rfl) T.n_range (pa_cons (pv 4) pa_nil)) (pg_name (i := 5) sc_law_list_good.nd rfl (Or.inl rfl))
                (pss_one (ps_if (pt_val (pe_call G_law_clash hr_law_clash (by rfl) T.g_law_clash T.F_law_clash.kp T.b_law_clash .nil pass0 (pa_cons (pe_ix (r := rIx K) ix_seq (pv 2) (pv 5) (fun _ _ => rfl)) (pa_cons (pe_ix (r := rIx K) ix_seq (pv 2) (pv 4) (fun _ _ => rfl)) pa_nil)))) (pss_one (ps_ret pe_bl)) pss_nil)))))) pss_nil)
      (pss_one (ps_ret (pe_cmpR op_gt (pe_callB (r := rLenK K) call_lenK (by rfl) T.n_len PySem.boot_len (pa_cons (pv 0) pa_nil)) pe_int (nomark _)))))))), ?_⟩
    obtain ⟨a, b, c, as, cs, ds, log, ws, bs, Ts, rfl, ea, la, eb, lb, ec, lc, lT, hT, cl, good, lbs, nd, fin⟩ := h
    have hT : ∀ (i : Nat) (b : List Int) (T : Log), bs[i]? = some b → Ts[i]? = some T → Tails log b T := hT
    have lws : ws.length ≤ 331 := Nat.le_trans good.sub.length_le lbs
    have bT : ∀ {k : Nat} {b : List Int}, bs[k]? = some b → ∃ d T, ds[k]? = some d ∧ TD H d T ∧ Tails log b T := fun {k b} h => by
      have lk := (List.getElem?_eq_some_iff.1 h).1
      have h2 := List.getElem?_eq_getElem (show k < Ts.length by omega)
      have h1 := List.getElem?_eq_getElem (show k < ds.length by rw [lc.1]; omega)
      exact ⟨_, _, h1, lc.2 k _ _ h1 h2, hT k _ _ h h2⟩
    refine ⟨_, rfl, a, rfl, ⟨_, SqL.of ea⟩, fun D hD => ?_⟩
    refine it_any walk_list (fun i H' => Same H H' ∧ ∃ (es : List Addr) (Cs : List Log), H' D = some (.lst (es.map V.ref)) ∧ Rel TD H' es Cs ∧ Cs.length = i ∧ ∀ (m : Nat) (x : List Int) (C : Log), ws[m]? = some x → Cs[m]? = some C → Tails log x C) ⟨same_upd (Same.refl _) hD, [], [], upd_same, Rel.nil, rfl, fun m x C _ h => by cases h⟩ (fun i H' _ z => SqL.of (z.1 _ _ ea)) ?_ ?_
    · rintro i x H1x H1 hi ⟨s1, es, Cs, e1, r1, l1, c1⟩ ⟨rfl, hx⟩
      obtain ⟨t, ht, rfl⟩ := ofV hx
      have li : i < ws.length := by
        have := (List.getElem?_eq_some_iff.1 ht).1
        rw [la.1] at this
        exact this
      have ew := List.getElem?_eq_getElem li
      generalize ws[i] = x at ew
      have mx := good.sub.subset (List.mem_of_getElem? ew)
      have hx1 := s1 _ _ (la.2 i t x ht ew)
      refine ⟨rfl, _, rfl, _, rfl, .inl ⟨rfl, _, SqL.of (s1 _ _ eb)⟩, _, rfl, ?_⟩
      dsimp only [tNil]
      refine index_ll hx1 (s1 _ _ eb) (lb.same s1) mx ?_
      have lf : bs.findIdx (fun y => decide (y = x)) < bs.length := List.findIdx_lt_length_of_exists ⟨x, mx, decide_eq_true rfl⟩
      have ef : bs[bs.findIdx (fun y => decide (y = x))]? = some x := by
        rw [List.getElem?_eq_getElem lf]
        exact congrArg some (of_decide_eq_true (List.findIdx_getElem (w := lf)))
      obtain ⟨d, Td, hd, td, tl⟩ := bT ef
      refine .inl ⟨c, _, _, _, rfl, rfl, SqL.of (s1 _ _ ec), atI_nat (getV hd), ?_⟩
      have le : es.length = i := r1.1.trans l1
      have td1 : TD H1 d Td := s1 _ _ td
      refine ⟨_, e1, Nat.lt_of_le_of_lt (by rw [List.length_map, le]; omega : _ ≤ 1000) (by decide), same_set s1 hD, es ++ [d], Cs ++ [Td], by rw [upd_same, List.map_append]; rfl, ?_, by rw [List.length_append, l1]; rfl, fun m y C hy hC => ?_⟩
      · have ne : ∀ {p : Addr} {T : Log}, TD H1 p T → TD (upd H1 D (.lst (es.map V.ref ++ [.ref d]))) p T := fun {p T} h => (upd_ne fun z => by
          have h : H1 p = some (.dT (kvsO T)) := h
          rw [z, e1] at h
          cases h).trans h
        exact Rel.push (Rel.imp r1 fun _ _ => ne) (ne td1)
      · rcases Nat.lt_or_ge m Cs.length with q | q
        · rw [List.getElem?_append_left q] at hC
          exact c1 m y C hy hC
        · rw [List.getElem?_append_right q] at hC
          match hm : m - Cs.length, hC with
          | 0, hC =>
            cases hC
            have : m = i := by omega
            rw [this, ew] at hy
            cases hy
            exact tl
          | _ + 1, hC => cases hC
    rintro H1 ⟨s1, es, Cs, e1, r1, l1, c1⟩
    rw [List.length_map, la.1] at l1
    have le : es.length = ws.length := r1.1.trans l1
    have wC : ∀ {k : Nat} {b : List Int}, ws[k]? = some b → ∃ d T, es[k]? = some d ∧ TD H1 d T ∧ Tails log b T := fun {k b} h => by
      have lk := (List.getElem?_eq_some_iff.1 h).1
      have h2 := List.getElem?_eq_getElem (show k < Cs.length by omega)
      have h1 := List.getElem?_eq_getElem (show k < es.length by omega)
      exact ⟨_, _, h1, r1.2 k _ _ h1 h2, c1 k _ _ h h2⟩
    have bT1 : ∀ {k : Nat} {b : List Int}, bs[k]? = some b → ∃ d T, ds[k]? = some d ∧ TD H1 d T ∧ Tails log b T := fun h => let ⟨d, T, h1, h2, h3⟩ := bT h; ⟨d, T, h1, s1 _ _ h2, h3⟩
    have cT : ∀ {u v : List Int} {T U : Log}, Tails log u T → Tails log v U → (contraB T U = true ↔ Cls log u v) := fun h1 h2 => contra_iff cl h1 h2
    refine ⟨_, rfl, D, _, rfl, .inl (SqL.of e1), ?_⟩
    rw [List.length_map, le]
    refine ⟨_, rfl, by omega, by omega, ?_⟩
    refine for_range (n := ((ws.length : Nat) : Int).toNat) (fun k σ H' => ∃ (v4 v5 : Option V), σ = [some (.ref a), some (.ref b), some (.ref c), some (.ref D), v4, v5, none, none] ∧ Same H1 H') ⟨_, _, rfl, Same.refl _⟩ ?_ ?_
    · rintro k σ H2 hk ⟨v4, v5, rfl, s2⟩
      have hk : k < ws.length := by omega
      have ewk := List.getElem?_eq_getElem hk
      refine ⟨_, rfl, _, rfl, by omega, by omega, ?_⟩
      refine for_range (n := ((0 : Int) + (k : Int)).toNat) (fun j σ H' => ∃ v5 : Option V, σ = [some (.ref a), some (.ref b), some (.ref c), some (.ref D), some (.int (0 + (k : Int))), v5, none, none] ∧ Same H1 H') ⟨_, rfl, s2⟩ ?_ ?_
      · rintro j σ H3 hj ⟨v5', rfl, s3⟩
        have hj : j < k := by omega
        have ewj := List.getElem?_eq_getElem (show j < ws.length by omega)
        obtain ⟨dj, Tj, g1, g2, g3⟩ := wC ewj
        obtain ⟨dk, Tk, f1, f2, f3⟩ := wC ewk
        have eD3 := s3 _ _ e1
        refine ⟨_, rfl, _, rfl, .inl ⟨D, _, _, _, rfl, rfl, SqL.of eD3, at_ref g1, ?_⟩⟩
        refine ⟨_, rfl, _, rfl, .inl ⟨D, _, _, _, rfl, rfl, SqL.of eD3, at_ref f1, ?_⟩⟩
        refine ⟨dj, dk, Tj, Tk, rfl, s3 _ _ g2, s3 _ _ f2, g3.fn cl, fun H4 s4 => ?_⟩
        have two := List.pairwise_iff_getElem.1 good.two j k (by omega) hk hj
        rw [(cT g3 f3).2 two]
        exact ⟨_, rfl, ifDF rfl ⟨_, rfl, s3.trans s4⟩⟩
      · rintro σ H3 ⟨v5', rfl, s3⟩
        exact ⟨_, _, rfl, s3⟩
    rintro σ H2 ⟨v4, v5, rfl, s2⟩
    have lcs : cs.length = bs.length := lb.1
    refine ⟨_, rfl, b, _, rfl, .inl (SqL.of (s2 _ _ (s1 _ _ eb))), ?_⟩
    rw [List.length_map, lcs]
    refine ⟨_, rfl, by omega, by omega, ?_⟩
    refine for_range (n := ((bs.length : Nat) : Int).toNat) (fun k σ H' => ∃ (v4 v5 : Option V), σ = [some (.ref a), some (.ref b), some (.ref c), some (.ref D), v4, v5, none, none] ∧ Same H1 H') ⟨_, _, rfl, s2⟩ ?_ ?_
    · rintro k σ H3 hk ⟨v4, v5, rfl, s3⟩
      have hk : k < bs.length := by omega
      have ebk := List.getElem?_eq_getElem hk
      generalize bs[k] = x at ebk
      have eck := List.getElem?_eq_getElem (show k < cs.length by omega)
      generalize cs[k] = ck at eck
      obtain ⟨dk, Tk, f1, f2, f3⟩ := bT1 ebk
      have s03 := s1.trans s3
      have hx3 := s03 _ _ (lb.2 k ck x eck ebk)
      refine ⟨_, rfl, _, rfl, .inl ⟨b, _, _, _, rfl, rfl, SqL.of (s03 _ _ eb), at_ref eck, ?_⟩⟩
      refine ⟨_, rfl, notin_ll hx3 (s03 _ _ ea) (la.same s03) ?_⟩
      by_cases hin : x ∈ ws
      · exact ⟨_, rfl, ifDF (by rw [decide_eq_true hin]; rfl) (ifDF rfl ⟨_, _, rfl, s3⟩)⟩
      refine ⟨_, rfl, ifDT (by rw [decide_eq_false hin]; rfl) ?_⟩
      obtain ⟨u, hu, nu⟩ := good.out x (List.mem_of_getElem? ebk) hin
      obtain ⟨m0, hm0⟩ := List.mem_iff_getElem?.1 hu
      have lm0 := (List.getElem?_eq_some_iff.1 hm0).1
      have e3D := s3 _ _ e1
      refine ⟨_, rfl, D, rfl, ⟨_, SqL.of e3D⟩, fun D5 hD5 => ?_⟩
      refine it_any walk_list (fun i H' => Same H3 H' ∧ ∃ fs : List V, H' D5 = some (.lst fs) ∧ fs.length ≤ i ∧ (m0 < i → fs ≠ [])) ⟨same_upd (Same.refl _) hD5, [], upd_same, Nat.le_refl _, fun z => absurd z (Nat.not_lt_zero _)⟩ (fun i H' _ z => SqL.of (z.1 _ _ e3D)) ?_ ?_
      · rintro i y H4x H4 hi ⟨s4, fs, e4, l4, n4⟩ ⟨rfl, hy⟩
        obtain ⟨t, ht, rfl⟩ := ofV hy
        have li : i < ws.length := by
          have := (List.getElem?_eq_some_iff.1 ht).1
          omega
        have ewi := List.getElem?_eq_getElem li
        generalize hwi : ws[i] = xi at ewi
        obtain ⟨di, Ti, g1, g2, g3⟩ := wC ewi
        rw [ht] at g1
        cases g1
        have s34 := s3.trans s4
        refine ⟨rfl, _, rfl, _, rfl, _, rfl, .inl ⟨c, _, _, _, rfl, rfl, SqL.of ((s1.trans s34) _ _ ec), at_ref f1, ?_⟩⟩
        refine ⟨t, dk, Ti, Tk, rfl, s34 _ _ g2, s34 _ _ f2, g3.fn cl, fun H5 s5 => ?_⟩
        have e5 := s5 _ _ e4
        cases hc : contraB Ti Tk with
        | true =>
          refine ⟨_, rfl, ifDF rfl ⟨s4.trans s5, fs, e5, by omega, fun z => ?_⟩⟩
          rcases Nat.lt_succ_iff_lt_or_eq.1 z with q | q
          · exact n4 q
          · rw [q, ewi] at hm0
            cases hm0
            exact absurd ((cT g3 f3).1 hc) nu
        | false =>
          refine ⟨_, rfl, ifDT rfl ⟨_, rfl, fs, e5, Nat.lt_of_le_of_lt (by omega : fs.length ≤ 1000) (by decide), same_set (s4.trans s5) hD5, _, upd_same, by rw [List.length_append]; show fs.length + 1 ≤ i + 1; omega, fun _ z => by simp at z⟩⟩
      · rintro H4 ⟨s4, fs, e4, l4, n4⟩
        have n4 := n4 (by rw [List.length_map, le]; exact lm0)
        refine ⟨D5, _, rfl, .inl (SqL.of e4), rfl, _, rfl, ?_⟩
        have nz : ¬ V.int (fs.length : Int) = V.int 0 := fun z => by
          have z : ((fs.length : Nat) : Int) = 0 := by injection z
          exact n4 (List.length_eq_zero_iff.1 (by omega))
        exact ifDF (decide_eq_false nz) ⟨_, _, rfl, s3.trans s4⟩
    rintro σ H3 ⟨v4, v5, rfl, s3⟩
    dsimp only
    have s03 := s1.trans s3
    refine ifJoinS (fun σ H' => ∃ (v4 v5 : Option V), σ = [some (.ref a), some (.ref b), some (.ref c), some (.ref D), v4, v5, none, none] ∧ Same H1 H') (fun nx => ?_) ?_
    · refine ⟨_, rfl, a, _, rfl, .inl (SqL.of (s03 _ _ ea)), ?_⟩
      rw [List.length_map, la.1]
      refine ⟨_, _, rfl, rfl, _, rfl, ?_⟩
      by_cases few : ws.length < 2
      · refine ifDT (decide_eq_true (Int.ofNat_lt.2 few)) ?_
        refine ⟨_, rfl, b, _, rfl, .inl (SqL.of (s03 _ _ eb)), ?_⟩
        rw [List.length_map, lcs]
        refine ⟨_, rfl, by omega, by omega, ?_⟩
        refine for_range (n := ((bs.length : Nat) : Int).toNat) (fun k σ H' => ∃ (v4 v5 : Option V), σ = [some (.ref a), some (.ref b), some (.ref c), some (.ref D), v4, v5, none, none] ∧ Same H1 H') ⟨_, _, rfl, s3⟩ ?_ ?_
        · rintro k σ H4 hk ⟨v4, v5, rfl, s4⟩
          have hk : k < bs.length := by omega
          have ebk := List.getElem?_eq_getElem hk
          refine ⟨_, rfl, _, rfl, by omega, by omega, ?_⟩
          refine for_range (n := ((0 : Int) + (k : Int)).toNat) (fun j σ H' => ∃ v5 : Option V, σ = [some (.ref a), some (.ref b), some (.ref c), some (.ref D), some (.int (0 + (k : Int))), v5, none, none] ∧ Same H1 H') ⟨_, rfl, s4⟩ ?_ ?_
          · rintro j σ H5 hj ⟨v5', rfl, s5⟩
            have ebj := List.getElem?_eq_getElem (show j < bs.length by omega)
            obtain ⟨dj, Tj, g1, g2, g3⟩ := bT1 ebj
            obtain ⟨dk, Tk, f1, f2, f3⟩ := bT1 ebk
            have ec5 := (s1.trans s5) _ _ ec
            refine ⟨_, rfl, _, rfl, .inl ⟨c, _, _, _, rfl, rfl, SqL.of ec5, at_ref g1, ?_⟩⟩
            refine ⟨_, rfl, _, rfl, .inl ⟨c, _, _, _, rfl, rfl, SqL.of ec5, at_ref f1, ?_⟩⟩
            refine ⟨dj, dk, Tj, Tk, rfl, s5 _ _ g2, s5 _ _ f2, g3.fn cl, fun H6 s6 => ?_⟩
            have no := good.few few _ (List.mem_of_getElem? ebj) _ (List.mem_of_getElem? ebk)
            have cf : contraB Tj Tk = false := by
              cases q : contraB Tj Tk with
              | false => rfl
              | true => exact absurd ((cT g3 f3).1 q) no
            rw [cf]
            exact ⟨_, rfl, ifDF rfl ⟨_, rfl, s5.trans s6⟩⟩
          · rintro σ H5 ⟨v5', rfl, s5⟩
            exact ⟨_, _, rfl, s5⟩
        · rintro σ H4 ⟨v4, v5, rfl, s4⟩
          exact nx _ _ ⟨_, _, rfl, s4⟩
      · exact ifDF (decide_eq_false (fun z => few (Int.ofNat_lt.1 z))) (nx _ _ ⟨_, _, rfl, s3⟩)
    rintro σ H4 ⟨v4, v5, rfl, s4⟩
    refine ⟨_, rfl, a, _, rfl, .inl (SqL.of ((s1.trans s4) _ _ ea)), ?_⟩
    rw [List.length_map, la.1]
    refine ⟨_, _, rfl, rfl, ?_⟩
    have lp : 0 < ws.length := List.length_pos_iff.2 good.ne
    have e9 : decide ((0 : Int) < (ws.length : Int)) = true := decide_eq_true (by omega)
    show Q (V.bl (decide ((0 : Int) < (ws.length : Int)))) _
    rw [e9]
    exact fin _ (s1.trans s4)
end
end K42

set_option Elab.async false
set_option linter.all false
set_option maxRecDepth 100000
set_option maxHeartbeats 4000000
namespace K42
open PySem PySem.Spec PyProof.Rows L2 Mz
def rowP (r : List Int × Int) : PyData := .tuple [.list (r.1.map .int), .int r.2]
theorem depth_rowP (r : List Int × Int) : PyData.depth (rowP r) ≤ 3 := by
  have := depthI r.1
  unfold rowP
  simp only [PyData.depth, PyData.depthAll]
  omega
theorem depth_log : ∀ log : Log, PyData.depthAll (log.map rowP) ≤ 3
  | [] => by simp [PyData.depthAll]
  | x :: xs => by
    have := depth_log xs
    have := depth_rowP x
    simp only [List.map_cons, PyData.depthAll]
    omega
theorem lay_rowP (r : List Int × Int) : PyData.canLay0 (rowP r) = true := by
  have := lay_ints r.1
  unfold rowP
  simp [PyData.canLay0, PyData.canLayAll0, this]
theorem lay_log : ∀ log : Log, PyData.canLayAll0 (log.map rowP) = true
  | [] => by simp [PyData.canLayAll0]
  | x :: xs => by
    have := lay_log xs
    have := lay_rowP x
    simp [PyData.canLayAll0, *]
theorem shaped_log (log : Log) : SeqAt.shaped (.list (log.map rowP)) = true := by
  have h := depth_log log
  have e : PyData.depth (.list (log.map rowP)) ≤ 64 := by
    simp only [PyData.depth]
    omega
  show (PyData.canLay0 (.list (log.map rowP)) && decide (PyData.depth (.list (log.map rowP)) ≤ 64)) = true
  rw [decide_eq_true e]
  simp [PyData.canLay0, lay_log]
theorem rel_dp2 {α : Type} {R : Hp → Addr → α → Prop} {K : PySem.W.Frag} {H : Hp} {f : α → PyData} (k : ∀ t x, R H t x → Dp K H (.ref t) (f x)) : ∀ {ts : List Addr} {xs : List α}, Rel R H ts xs → DpAll K H (ts.map V.ref) (xs.map f)
  | [], [], _ => .nil
  | [], _ :: _, h => by cases h.1
  | _ :: _, [], h => by cases h.1
  | t :: ts, x :: xs, h => .cons (k t x (h.2 0 t x rfl rfl)) (rel_dp2 k ⟨by have := h.1; simpa using this, fun i u y p q => h.2 (i + 1) u y p q⟩)
theorem log_dp {K : PySem.W.Frag} {H : Hp} {l : Addr} {log : Log} (h : LogAt H l log) : Dp K H (.ref l) (.list (log.map rowP)) := by
  obtain ⟨ts, h1, h2⟩ := h
  refine .lst (SqL.of h1) (rel_dp2 (fun t x hx => ?_) h2)
  obtain ⟨a, e1, e2⟩ := hx
  exact .tup (SqT.of e1) (.cons (.lst (SqL.of e2) (dp_ints _)) (.cons (.int _) .nil))
theorem eqv_same {d : PyData} (h : SeqAt.shaped d = true) : PyData.eqv d d = true := PySem.SeqAt.eqv_refl d (PySem.SeqAt.canLay_of_shaped h)
theorem ne_same {K : PySem.W.Frag} {H : Hp} {x y : V} {d : PyData} {Q : VK} (h1 : Dp K H x d) (h2 : Dp K H y d) (s : SeqAt.shaped d = true) (q : Q (.bl false) H) : rNeD K x y H Q := ⟨d, d, h1, h2, s, s, by rw [eqv_same s]; exact q⟩
theorem eq_same {K : PySem.W.Frag} {H : Hp} {x y : V} {d : PyData} {Q : VK} (h1 : Dp K H x d) (h2 : Dp K H y d) (s : SeqAt.shaped d = true) (q : Q (.bl true) H) : rEqD K x y H Q := ⟨d, d, h1, h2, s, s, by rw [eqv_same s]; exact q⟩
theorem lexLt_asymm : ∀ {u v : List Int}, HT.lexLt u v = true → HT.lexLt v u = false
  | [], [], h => by cases h
  | [], _ :: _, _ => rfl
  | _ :: _, [], h => by cases h
  | a :: u, b :: v, h => by
    rw [HT.lexLt_cons] at h ⊢
    by_cases e : a = b
    · subst e
      rw [if_pos rfl] at h ⊢
      exact lexLt_asymm h
    · rw [if_neg e] at h
      rw [if_neg (Ne.symm e)]
      have h := of_decide_eq_true h
      exact decide_eq_false (by omega)
theorem wordLt_asymm {u v : List Int} (h : wordLt u v = true) : wordLt v u = false := by
  unfold wordLt at h ⊢
  by_cases e : u.length = v.length
  · rw [if_pos e] at h
    rw [if_pos e.symm]
    exact lexLt_asymm h
  · rw [if_neg e] at h
    rw [if_neg (Ne.symm e)]
    have h := of_decide_eq_true h
    exact decide_eq_false (by omega)

theorem asc_words {x y : List (List Int)} (m : ∀ b, b ∈ x ↔ b ∈ y) (h1 : Asc x) (h2 : Asc y) : x = y := by
  have nd : ∀ {z : List (List Int)}, Asc z → z.Nodup := fun {z} h => List.Pairwise.imp (fun {a b} q e => by
    rw [e] at q
    have := wordLt_asymm q
    rw [q] at this
    cases this) h
  have p : x.Perm y := (List.perm_ext_iff_of_nodup (nd h1) (nd h2)).2 m
  refine List.Perm.eq_of_pairwise (le := fun a b : List Int => wordLt a b = true) (fun a b _ _ p q => ?_) h1 h2 p
  rw [wordLt_asymm p] at q
  cases q
theorem asc_nodup {z : List (List Int)} (h : Asc z) : z.Nodup := List.Pairwise.imp (fun {a b} q e => by
    rw [e] at q
    have := wordLt_asymm q
    rw [q] at this
    cases this) h
theorem sub_filter : ∀ {ws bs : List (List Int)}, ws.Sublist bs → bs.Nodup → bs.filter (fun b => decide (b ∈ ws)) = ws
  | _, _, .slnil, _ => rfl
  | ws, _, .cons (l₂ := bs) b h, nd => by
    have hb : b ∉ ws := fun z => (List.nodup_cons.1 nd).1 (h.subset z)
    rw [List.filter_cons, if_neg (by simpa using hb)]
    exact sub_filter h (List.nodup_cons.1 nd).2
  | _, _, .cons₂ (l₁ := ws) (l₂ := bs) b h, nd => by
    have hb := (List.nodup_cons.1 nd).1
    rw [List.filter_cons, if_pos (by simp)]
    refine congrArg (List.cons b) ?_
    refine (List.filter_congr fun x hx => ?_).trans (sub_filter h (List.nodup_cons.1 nd).2)
    have : x ≠ b := fun z => hb (z ▸ hx)
    simp [this]
theorem nodup_len {α : Type} [DecidableEq α] : ∀ {xs ys : List α}, xs.Nodup → (∀ x ∈ xs, x ∈ ys) → xs.length ≤ ys.length
  | [], _, _, _ => Nat.zero_le _
  | x :: xs, ys, nd, h => by
    have hx := h x List.mem_cons_self
    have nd := List.nodup_cons.1 nd
    have := nodup_len (ys := ys.erase x) nd.2 fun y hy => (List.mem_erase_of_ne (fun z : y = x => nd.1 (by rw [← z]; exact hy))).2 (h y (List.mem_cons_of_mem _ hy))
    rw [List.length_erase_of_mem hx] at this
    have := List.length_pos_of_mem hx
    rw [List.length_cons]
    omega
theorem nodup_le {xs ys : List (List Int)} (nd : xs.Nodup) (h : ∀ x ∈ xs, x ∈ ys) : xs.length ≤ ys.length := nodup_len nd h
theorem few_beg {log : Log} {bs : List (List Int)} (nd : bs.Nodup) (hb : ∀ b ∈ bs, BL log b) (w7 : ∀ r ∈ log, r.1.length ≤ 7) (l6 : log.length ≤ 6) : bs.length ≤ 99 := by
  have h := nodup_le (ys := [] :: log.flatMap fun r => (List.range 8).map fun p => r.1.take p) nd fun b h => by
    rcases hb b h with z | ⟨r, hr, q⟩
    · rw [z]; exact List.mem_cons_self
    · refine List.mem_cons_of_mem _ (List.mem_flatMap.2 ⟨r, hr, List.mem_map.2 ⟨b.length, List.mem_range.2 ?_, (List.prefix_iff_eq_take.1 q).symm⟩⟩)
      have := q.length_le
      have := w7 r hr
      omega
  refine Nat.le_trans h ?_
  rw [List.length_cons, List.length_flatMap]
  have e : (log.map fun r => ((List.range 8).map fun p => r.1.take p).length) = log.map fun _ => 8 := List.map_congr_left fun r _ => by rw [List.length_map, List.length_range]
  rw [e, List.map_const', List.sum_replicate_nat]
  omega
theorem few_one {log : Log} {bs : List (List Int)} {O : Int} (nd : bs.Nodup) (hb : ∀ b ∈ bs, BL log b) (w7 : ∀ r ∈ log, r.1.length ≤ 7) (inR : InRange 1 O log) : bs.length ≤ 99 := by
  have h := nodup_le (ys := (List.range 8).map fun p => List.replicate p (0 : Int)) nd fun b h => by
    have hl : b.length ≤ 7 ∧ Lt 1 b := by
      rcases hb b h with z | ⟨r, hr, q⟩
      · rw [z]; exact ⟨Nat.zero_le _, fun x hx => absurd hx (by simp)⟩
      · have := q.length_le
        have := w7 r hr
        exact ⟨by omega, fun x hx => (inR.2.2.2 r hr).1.1 x (q.subset hx)⟩
    refine List.mem_map.2 ⟨b.length, List.mem_range.2 (by omega), ?_⟩
    exact (List.eq_replicate_iff.2 ⟨rfl, fun x hx => by have := hl.2 x hx; omega⟩).symm
  rw [List.length_map, List.length_range] at h
  omega
theorem run_app (M : Mach) : ∀ (u v : List Int) (s : Int), M.run s (u ++ v) = M.run (M.run s u) v
  | [], _, _ => rfl
  | a :: u, v, s => run_app M u v (M.next s a)
/-- words that clash lead to different states -/
theorem clash_states {log : Log} {L O : Int} {ws : List (List Int)} {M : Mach} (g : Good M) (els : M.ls = L) (f : FitsL M log) (inR : InRange L O log) (two : ws.Pairwise fun u v => Cls log u v) (hb : ∀ b ∈ ws, BL log b) : ws.length ≤ M.rows.length := by
  have nd : (ws.map fun u => M.run 0 u).Nodup := by
    unfold List.Nodup
    rw [List.pairwise_map]
    refine two.imp fun {u v} h e => ?_
    obtain ⟨t, o1, o2, h1, h2, n⟩ := h
    have e1 := f _ h1
    have e2 := f _ h2
    have e1 : M.out (M.run 0 (u ++ t)) = o1 := e1
    have e2 : M.out (M.run 0 (v ++ t)) = o2 := e2
    rw [run_app] at e1 e2
    rw [e] at e1
    exact n (e1.symm.trans e2)
  have sub : ∀ s ∈ (ws.map fun u => M.run 0 u), s ∈ (List.range M.rows.length).map fun (i : Nat) => (i : Int) := fun s hs => by
    obtain ⟨u, hu, rfl⟩ := List.mem_map.1 hs
    have hl : Lt M.ls u := by
      rcases hb u hu with z | ⟨r, hr, q⟩
      · rw [z]; exact fun x hx => absurd hx (by simp)
      · rw [els]; exact fun x hx => (inR.2.2.2 r hr).1.1 x (q.subset hx)
    have st := g.runs g.st0 hl
    have h0 := st.1
    have h1 := st.2
    exact List.mem_map.2 ⟨(M.run 0 u).toNat, List.mem_range.2 (by omega), by omega⟩
  have := nodup_len nd sub
  rw [List.length_map, List.length_map, List.length_range] at this
  exact this
theorem rgc {n : Nat} {c : Int} (hn : n ≤ 331) (c1 : 1 ≤ c) (c2 : c ≤ 100) : ∃ m : Nat, RgC 0 (n : Int) c m ∧ ∀ i : Nat, i < m → (i : Int) * c < n := by
  have e := PyProof.Rows.rangeSize_pos (len := (n : Int)) c1 (by omega)
  have h0 : 0 ≤ ((n : Int) + c - 1) / c := Int.ediv_nonneg (by omega) (by omega)
  refine ⟨(((n : Int) + c - 1) / c).toNat, ⟨by omega, by omega, ?_, by rw [e]; omega⟩, fun i hi => ?_⟩
  · have hq : ((n : Int) + c - 1) / c * c ≤ (n : Int) + c - 1 := Int.ediv_mul_le _ (by omega)
    have hq2 : ((n : Int) + c - 1) / c ≤ (n : Int) + c - 1 := Int.ediv_le_self _ (by omega)
    unfold Builtin.Range.small
    rw [e]
    generalize ((n : Int) + c - 1) / c = q at *
    simp only [Builtin.Range.rangeFitsLong, Bool.and_eq_true, Bool.or_eq_true, decide_eq_true_eq, beq_iff_eq, show c > 0 by omega, if_true]
    omega
  · have h1 : (i : Int) + 1 ≤ ((n : Int) + c - 1) / c := by omega
    have h2 := Int.mul_le_of_le_ediv (by omega : 0 < c) h1
    rw [Int.add_mul] at h2
    omega
theorem rep9 {σ : L2.St} {H : Hp} {Q : VK} (q : ∀ H' a, Same H H' → H' a = some (.lst ((List.replicate 9 (0 : Int)).map V.int)) → Q (.ref a) H') : tOp rRep (tLst (tCons (tC (.int 0)) tNil)) (tC (.int 9)) σ H Q := by
  refine ⟨(by show 1 ≤ sizeLine; decide), fun x1 hx1 => ?_⟩
  have s11 := same_upd (o := .lst [.int 0]) (Same.refl H) hx1
  have ex1 : (upd H x1 (.lst [.int 0])) x1 = some (.lst [.int 0]) := upd_same
  generalize upd H x1 (.lst [.int 0]) = H11 at *
  dsimp only [tC]
  exact ⟨x1, 9, [.int 0], rfl, rfl, ex1, by decide, by decide, Nat.le_trans (by decide : _ ≤ 1000) (by decide), fun x2 hx2 => q _ x2 (s11.trans (same_upd (Same.refl _) hx2)) upd_same⟩
theorem lit0 {σ : L2.St} {H : Hp} {Q : VK} (q : ∀ H' a, Same H H' → H' a = some (.lst (([] : List Int).map V.int)) → Q (.ref a) H') : tLst tNil σ H Q := ⟨(by show 0 ≤ sizeLine; decide), fun x hx => q _ x (same_upd (Same.refl _) hx) upd_same⟩
theorem ifJoinS2 {t : TT} {body u : TS} {D : Ends} {σ : L2.St} {H : Hp} (h : t σ H fun b H2 => if b = true then body { D with nx := u D } σ H2 else u D σ H2) : tSeq (tIfS t body tNext) u D σ H := h
theorem LogN.new {H H' : Hp} {D : Addr} {log : Log} (h : LogN H' D log) : LogAt H' D log := h.at
def spLaw (K : PySem.W.Frag) (Ps : List Addr) : Sp := fun vs H Q _ => ∃ (a : Addr) (ns : List Int), vs = [.ref a] ∧ SqL K H a (ns.map V.int) ∧ ns.length ≤ 63 ∧ TL Ps H ∧ ∀ H', Q (.bl true) H'
section
variable {P : Program} {w : World} {K : PySem.W.Frag} {mg : Str → Option Value} {base : Heap} {A : Ads} {c1 c2 c3 P1 P2 P3 : Addr}
theorem ok_law (T : Txt K mg A) (TB1 : GxR.TabB base mg c1 P1) (hc1 : A.d_are_below.code = .ref c1) (TB2 : GxR.TabB base mg c2 P2) (hc2 : A.d_contradict.code = .ref c2) (TB3 : GxR.TabB base mg c3 P3) (hc3 : A.d_clash_list.code = .ref c3) : FnOk P w K mg base CX0 7 A.a_law A.d_law ["script"] (spLaw K [P1, P2, P3]) := by
  have G_law_cell : FnOk P w K mg base CX0 1 A.a_law_cell A.d_law_cell ["script", "k"] (spCell K) := ok_cell T
  have G_law_numbers : FnOk P w K mg base CX0 1 A.a_law_numbers A.d_law_numbers ["cell", "k", "many"] spNumbers := ok_numbers T
  have G_law_machine : FnOk P w K mg base CX0 1 A.a_law_machine A.d_law_machine ["numbers", "letters", "outs", "states"] (spLMachine K) := ok_lmachine T
  have G_law_log : FnOk P w K mg base CX0 3 A.a_law_log A.d_law_log ["script", "letters", "outs", "hidden"] (spLLog K) := ok_llog T
  have G_law_beginnings : FnOk P w K mg base CX0 1 A.a_law_beginnings A.d_law_beginnings ["log"] spBegin := ok_lbegin T
  have G_beginnings : FnOk P w K mg base CX0 4 A.a_beginnings A.d_beginnings ["log"] spBegin := ok_begin T
  have G_law_tails : FnOk P w K mg base CX0 1 A.a_law_tails A.d_law_tails ["log", "start"] spLTails := ok_ltails T
  have G_law_clash : FnOk P w K mg base CX0 1 A.a_law_clash A.d_law_clash ["first", "second"] spLClash := ok_lclash T
  have G_do_clash : FnOk P w K mg base CX0 6 A.a_do_clash A.d_do_clash ["log", "first", "second"] (spDoClash P2) := ok_doclash T TB2 hc2
  have G_clash_list : FnOk P w K mg base (L2N.CX P w) 6 A.a_clash_list A.d_clash_list ["letters", "outs", "log"] (spClashList P1 P2 P3) := ok_clashlist T TB1 hc1 TB2 hc2 TB3 hc3
  have G_law_list_good : FnOk P w K mg base CX0 2 A.a_law_list_good A.d_law_list_good ["words", "starts", "tails"] spListGood := ok_listgood T
  have G_law_states : FnOk P w K mg base CX0 5 A.a_law_states A.d_law_states ["letters", "outs", "log"] (spLStates P1) := ok_lstates T TB1 hc1
  refine T.F_law.ok sc_law (fun vs H Q E h => ?_) (fun cdv Ar outer s H vs Q E hr h => ?_)
  · obtain ⟨_, _, rfl, _⟩ := h
    rfl
  · have hr_law_cell : Room 1 _ := hr.mono (by decide)
    have hr_law_numbers : Room 1 _ := hr.mono (by decide)
    have hr_law_machine : Room 1 _ := hr.mono (by decide)
    have hr_law_log : Room 3 _ := hr.mono (by decide)
    have hr_law_beginnings : Room 1 _ := hr.mono (by decide)
    have hr_beginnings : Room 4 _ := hr.mono (by decide)
    have hr_law_tails : Room 1 _ := hr.mono (by decide)
    have hr_law_clash : Room 1 _ := hr.mono (by decide)
    have hr_do_clash : Room 6 _ := hr
    have hr_clash_list : Room 6 _ := hr
    have hr_law_list_good : Room 2 _ := hr.mono (by decide)
    have hr_law_states : Room 5 _ := hr.mono (by decide)
    refine ⟨_, (pss_cons (ps_set (i := 1) sc_law.nd rfl (Or.inl rfl) (pe_call G_law_numbers hr_law_numbers (by rfl) T.g_law_numbers T.F_law_numbers.kp T.b_law_numbers .nil pass0 (pa_cons (pe_call G_law_cell hr_law_cell (by rfl) T.g_law_cell T.F_law_cell.kp T.b_law_cell .nil pass0 (pa_cons (pv 0) (pa_cons pe_int pa_nil))) (pa_cons pe_int (pa_cons pe_int pa_nil)))))
      (pss_cons (ps_set (i := 2) sc_law.nd rfl (Or.inl rfl) (pe_op op_add pe_int (pe_op op_mod (pe_callTy call_int1 (by rfl) T.n_int (by decide +kernel) (pa_cons (pe_ix (r := rIx K) ix_seq (pv 1) pe_int (fun _ _ => rfl)) pa_nil)) pe_int)))
      (pss_cons (ps_set (i := 3) sc_law.nd rfl (Or.inl rfl) (pe_op op_add pe_int (pe_op op_mod (pe_callTy call_int1 (by rfl) T.n_int (by decide +kernel) (pa_cons (pe_ix (r := rIx K) ix_seq (pv 1) pe_int (fun _ _ => rfl)) pa_nil)) pe_int)))
      (pss_cons (ps_set (i := 4) sc_law.nd rfl (Or.inl rfl) (pe_call G_law_machine hr_law_machine (by rfl) T.g_law_machine T.F_law_machine.kp T.b_law_machine .nil pass0 (pa_cons (pv 1) (pa_cons (pv 2) (pa_cons (pv 3) (pa_cons (pe_op op_add pe_int (pe_op op_mod (pe_callTy call_int1 (by rfl) T.n_int (by decide +kernel) (pa_cons (pe_ix (r := rIx K) ix_seq (pv 1) pe_int (fun _ _ => rfl)) pa_nil)) pe_int)) pa_nil))))))
      (pss_cons (ps_set (i := 5) sc_law.nd rfl (Or.inr rfl) (pe_call G_law_log hr_law_log (by rfl) T.g_law_log T.F_law_log.kp T.b_law_log .nil pass0 (pa_cons (pv 0) (pa_cons (pv 2) (pa_cons (pv 3) (pa_cons (pv 4) pa_nil))))))
      (pss_cons (ps_setLc (i := 6) (own := [("row", 13)]) (g := (gName 13)) (tt := tYes) rfl sc_law.nd rfl rfl (sw_true rfl rfl rfl (by decide +kernel)) (pi_list (pv 5)) (blkOk_by (N := ["script", "numbers", "letters", "outs", "hidden", "log", "handed", "starts", "told", "tails", "k", "j", "words", "row", "start", "word"]) (sc := defScope s_law) (by decide +kernel)) (fun _ _ _ _ _ => (pg_name (i := 13) sc_law.nd rfl (Or.inl rfl))) (fun _ _ _ _ _ => pts_nil) (fun _ _ _ _ _ => (pe_tup (pa_cons (pe_callTy (r := rLof K) (T := "list") call_lof (by rfl) T.n_list (by decide +kernel) (pa_cons (pe_ix (r := rIx K) ix_seq (pv 13) pe_int (fun _ _ => rfl)) pa_nil)) (pa_cons (pe_ix (r := rIx K) ix_seq (pv 13) pe_int (fun _ _ => rfl)) pa_nil)))))
      (pss_cons (ps_set (i := 7) sc_law.nd rfl (Or.inl rfl) (pe_call G_law_beginnings hr_law_beginnings (by rfl) T.g_law_beginnings T.F_law_beginnings.kp T.b_law_beginnings .nil pass0 (pa_cons (pv 5) pa_nil)))
      (pss_cons (ps_set (i := 8) sc_law.nd rfl (Or.inl rfl) (pe_call G_beginnings hr_beginnings (by rfl) T.g_beginnings T.F_beginnings.kp T.b_beginnings .nil pass0 (pa_cons (pv 6) pa_nil)))
      (pss_cons (ps_if (pt_cmpR (op_neD hr.units) (pv 8) (pv 7) (nomark _)) (pss_one (ps_ret pe_bl)) pss_nil)
      (pss_cons (ps_expr (pe_bm PySem.F.plainAttrs_list PySem.F.slot_list_append PySem.F.type_list_append mt_append (pe_ix (r := rIx K) ix_seq (pv 8) pe_int (fun _ _ => rfl)) (pa_cons pe_int pa_nil)))
      (pss_cons (ps_if (pt_cmpR (op_neD hr.units) (pe_call G_beginnings hr_beginnings (by rfl) T.g_beginnings T.F_beginnings.kp T.b_beginnings .nil pass0 (pa_cons (pv 6) pa_nil)) (pv 7) (nomark _)) (pss_one (ps_ret pe_bl)) pss_nil)
      (pss_cons (ps_setLc (i := 9) (own := [("start", 14)]) (g := (gName 14)) (tt := tYes) rfl sc_law.nd rfl rfl (sw_true rfl rfl rfl (by decide +kernel)) (pi_list (pv 7)) (blkOk_by (N := ["script", "numbers", "letters", "outs", "hidden", "log", "handed", "starts", "told", "tails", "k", "j", "words", "row", "start", "word"]) (sc := defScope s_law) (by decide +kernel)) (fun _ _ _ _ _ => (pg_name (i := 14) sc_law.nd rfl (Or.inl rfl))) (fun _ _ _ _ _ => pts_nil) (fun _ _ _ _ _ => (pe_call G_law_tails hr_law_tails (by rfl) T.g_law_tails T.F_law_tails.kp T.b_law_tails .nil pass0 (pa_cons (pv 5) (pa_cons (pv 14) pa_nil)))))
      (pss_cons (ps_for PassesOwn.never rfl (pi_range3 (by rfl) T.n_range (pa_cons pe_int (pa_cons (pe_callB (r := rLenK K) call_lenK (by rfl) T.n_len PySem.boot_len (pa_cons (pv 7) pa_nil)) (pa_cons (pe_op op_add pe_int (pe_op op_fdiv (pe_callB (r := rLenK K) call_lenK (by rfl) T.n_len PySem.boot_len (pa_cons (pv 7) pa_nil)) pe_int)) pa_nil)))) (pg_name (i := 10) sc_law.nd rfl (Or.inl rfl))
        (pss_one (ps_for PassesOwn.never rfl (pi_range3 (by rfl) T.n_range (pa_cons pe_int (pa_cons (pe_callB (r := rLenK K) call_lenK (by rfl) T.n_len PySem.boot_len (pa_cons (pv 7) pa_nil)) (pa_cons (pe_op op_add pe_int (pe_op op_fdiv (pe_callB (r := rLenK K) call_lenK (by rfl) T.n_len PySem.boot_len (pa_cons (pv 7) pa_nil)) pe_int)) pa_nil)))) (pg_name (i := 11) sc_law.nd rfl (Or.inl rfl))
            (pss_one (ps_if (pt_cmpR op_ne (pe_call G_do_clash hr_do_clash (by rfl) T.g_do_clash T.F_do_clash.kp T.b_do_clash .nil pass0 (pa_cons (pv 6) (pa_cons (pe_ix (r := rIx K) ix_seq (pv 7) (pv 10) (fun _ _ => rfl)) (pa_cons (pe_ix (r := rIx K) ix_seq (pv 7) (pv 11) (fun _ _ => rfl)) pa_nil)))) (pe_call G_law_clash hr_law_clash (by rfl) T.g_law_clash T.F_law_clash.kp T.b_law_clash .nil pass0 (pa_cons (pe_ix (r := rIx K) ix_seq (pv 9) (pv 10) (fun _ _ => rfl)) (pa_cons (pe_ix (r := rIx K) ix_seq (pv 9) (pv 11) (fun _ _ => rfl)) pa_nil))) (nomark _)) (pss_one (ps_ret pe_bl)) pss_nil)))))
      (pss_cons (ps_if (PW.pt (pw_or (pt_cmpR op_isnot_bl (pe_call G_do_clash hr_do_clash (by rfl) T.g_do_clash T.F_do_clash.kp T.b_do_clash .nil pass0 (pa_cons (pv 6) (pa_cons (pe_op op_rep (pe_lst (pa_cons pe_int pa_nil)) pe_int) (pa_cons (pe_lst pa_nil) pa_nil)))) pe_bl (nomark _)) (pw_or1 (pt_cmpR op_isnot_bl (pe_call G_do_clash hr_do_clash (by rfl) T.g_do_clash T.F_do_clash.kp T.b_do_clash .nil pass0 (pa_cons (pv 6) (pa_cons (pe_lst pa_nil) (pa_cons (pe_op op_rep (pe_lst (pa_cons pe_int pa_nil)) pe_int) pa_nil)))) pe_bl (nomark _))))) (pss_one (ps_ret pe_bl)) pss_nil)
      (pss_cons (ps_set (i := 12) sc_law.nd rfl (Or.inr rfl) (pe_call G_clash_list hr_clash_list (by rfl) T.g_clash_list T.F_clash_list.kp T.b_clash_list .nil passN (pa_cons (pv 2) (pa_cons (pv 3) (pa_cons (pv 6) pa_nil)))))
      (pss_cons (ps_if (PW.pt (pw_or (pt_cmpR (op_neD hr.units) (pv 12) (pe_lc (own := [("word", 15)]) (g := (gName 15)) rfl sc_law.nd (pi_list (pv 7)) (blkOk_by (N := ["script", "numbers", "letters", "outs", "hidden", "log", "handed", "starts", "told", "tails", "k", "j", "words", "row", "start", "word"]) (sc := defScope s_law) (by decide +kernel)) (fun _ _ _ _ _ => (pg_name (i := 15) sc_law.nd rfl (Or.inl rfl))) (fun _ _ _ _ _ => (pts_one (pt_cmpR (show OpR _ _ (rInD K) from op_inD (hu65 hr)) (pv 15) (pv 12) rfl))) (fun _ _ _ _ _ => (pv 15))) (nomark _)) (pw_or (pt_cmpR op_lt (pe_callB (r := rLenK K) call_lenK (by rfl) T.n_len PySem.boot_len (pa_cons (pv 12) pa_nil)) pe_int (nomark _)) (pw_or1 (pt_cmpR (op_neD hr.units) (pv 6) (pv 5) (nomark _)))))) (pss_one (ps_ret pe_bl)) pss_nil)
      (pss_cons (ps_if (pt_not (pt_val (pe_call G_law_list_good hr_law_list_good (by rfl) T.g_law_list_good T.F_law_list_good.kp T.b_law_list_good .nil pass0 (pa_cons (pv 12) (pa_cons (pv 7) (pa_cons (pv 9) pa_nil)))))) (pss_one (ps_ret pe_bl)) pss_nil)
      (pss_cons (ps_if (PW.pt (pw_and (pt_cmpR op_eq (pv 2) pe_int (nomark _)) (pw_and1 (pt_cmpR op_gt (pe_callB (r := rLenK K) call_lenK (by rfl) T.n_len PySem.boot_len (pa_cons (pv 5) pa_nil)) pe_int (nomark _))))) (pss_one (ps_ret pe_bl)) pss_nil)
      (pss_one (ps_ret (pe_cmpR op_ge (pe_call G_law_states hr_law_states (by rfl) T.g_law_states T.F_law_states.kp T.b_law_states .nil pass0 (pa_cons (pv 2) (pa_cons (pv 3) (pa_cons (pv 5) pa_nil)))) (pe_callB (r := rLenK K) call_lenK (by rfl) T.n_len PySem.boot_len (pa_cons (pv 12) pa_nil)) (nomark _)))))))))))))))))))))), ?_⟩
    obtain ⟨sc, ns, rfl, hS, l63, t, fin⟩ := h
    have q1 : P1 ∈ [P1, P2, P3] := by simp
    have q2 : P2 ∈ [P1, P2, P3] := by simp
    refine ⟨_, rfl, sc, ns, 0, rfl, hS, Int.le_refl _, fun z => ?_⟩
    refine ⟨z, 0, 30, rfl, by decide, by decide, by decide, by decide, fun ms H1 p nn s1 _ e1 => ?_⟩
    have pick : ∀ j : Int, 0 ≤ j → j < 30 → ∃ z, (0 ≤ z ∧ z < 1000) ∧ atI (ms.map V.int) j = some (.int z) := fun j j0 j1 => by
      obtain ⟨z, hz, az⟩ := atI_int (ns := ms) (i := j) j0 (by rw [nn.1]; exact j1)
      exact ⟨z, nn.2 z hz, az⟩
    obtain ⟨z29, b29, a29⟩ := pick 29 (by decide) (by decide)
    obtain ⟨z28, b28, a28⟩ := pick 28 (by decide) (by decide)
    obtain ⟨z27, b27, a27⟩ := pick 27 (by decide) (by decide)
    obtain ⟨L, eL, L1, L2⟩ : ∃ L : Int, L = 1 + z29 % 2 ∧ 1 ≤ L ∧ L ≤ 2 := ⟨_, rfl, by omega, by omega⟩
    obtain ⟨O, eO, O1, O3⟩ : ∃ O : Int, O = 2 + z28 % 2 ∧ 1 ≤ O ∧ O ≤ 3 := ⟨_, rfl, by omega, by omega⟩
    refine ⟨_, rfl, .inl ⟨p, _, _, _, rfl, rfl, SqL.of e1, a29, .inl ⟨_, rfl, _, _, rfl, rfl, (by show (0 : Int) < 2; decide), _, _, rfl, rfl, ?_⟩⟩⟩
    dsimp only
    rw [← eL]
    refine ⟨_, rfl, .inl ⟨p, _, _, _, rfl, rfl, SqL.of e1, a28, .inl ⟨_, rfl, _, _, rfl, rfl, (by show (0 : Int) < 2; decide), _, _, rfl, rfl, ?_⟩⟩⟩
    dsimp only
    rw [← eO]
    clear eL eO
    refine ⟨_, rfl, _, rfl, _, rfl, _, rfl, .inl ⟨p, _, _, _, rfl, rfl, SqL.of e1, a27, .inl ⟨_, rfl, _, _, rfl, rfl, (by show (0 : Int) < 5; decide), _, _, rfl, rfl, ?_⟩⟩⟩
    refine ⟨p, ms, L, O, 1 + z27 % 5, rfl, SqL.of e1, nn, L1, by omega, O1, by omega, by omega, by omega, fun M H2 m g els eos enr s2 hM => ?_⟩
    refine ⟨_, rfl, _, rfl, _, rfl, _, rfl, sc, m, ns, L, O, M, rfl, same_seq (s1.trans s2) hS, l63, hM, g, els, eos, L2, fun H3 l log s3 _ ln l20 inR cl w7 => ?_⟩
    have k03 : KL [P1, P2, P3] H H3 := KL.of t (s1.trans (s2.trans s3))
    have t3 := k03.tab
    have hl3 := ln.at
    clear ln hM a27 a28 a29 b27 b28 b29 pick s1 s2 s3 hS k03
    have lw : ∀ r ∈ log, r.1.length ≤ 10 := fun r hr => (inR.2.2.2 r hr).1.2
    have l30 : log.length ≤ 30 := by omega
    obtain ⟨ts, el, rl⟩ := id hl3
    -- the log handed over
    refine ⟨_, rfl, l, rfl, ⟨_, SqL.of el⟩, fun D hD => ?_⟩
    refine it_any walk_list (fun i H' => Same H3 H' ∧ LogN H' D (log.take i)) ⟨same_upd (Same.refl _) hD, [], upd_same, Rel.nil⟩ (fun i H' _ z => SqL.of (z.1 _ _ el)) ?_ ?_
    · rintro i x H4x H4 hi ⟨s4, l4⟩ ⟨rfl, hx⟩
      obtain ⟨t1, ht1, rfl⟩ := ofV hx
      obtain ⟨⟨wd, ov⟩, er, b, et, eb⟩ := rl.to ht1
      have wl := lw _ (List.mem_of_getElem? er)
      have wl : wd.length ≤ 10 := wl
      refine ⟨rfl, _, rfl, .inr (.inl ⟨t1, _, 0, .ref b, rfl, rfl, SqT.of (s4 _ _ et), rfl, ?_⟩)⟩
      refine ⟨b, _, rfl, .inl (SqL.of (s4 _ _ eb)), fun u hu => ?_⟩
      have s5 := same_upd (o := .lst (wd.map V.int)) (Same.refl H4) hu
      have eu : (upd H4 u (.lst (wd.map V.int))) u = some (.lst (wd.map V.int)) := upd_same
      have nD : u ≠ D := fun h => by
        obtain ⟨us, e, _⟩ := l4
        rw [h, e] at hu
        cases hu
      generalize upd H4 u (.lst (wd.map V.int)) = H5 at *
      refine ⟨_, rfl, .inr (.inl ⟨t1, _, 1, .int ov, rfl, rfl, SqT.of (s5 _ _ (s4 _ _ et)), rfl, ?_⟩)⟩
      refine ⟨(by show 2 ≤ sizeLine; decide), fun v hv => ?_⟩
      have s6 := same_upd (o := .tup [.ref u, .int ov]) (Same.refl H5) hv
      have ev : (upd H5 v (.tup [.ref u, .int ov])) v = some (.tup [.ref u, .int ov]) := upd_same
      generalize upd H5 v (.tup [.ref u, .int ov]) = H6 at *
      obtain ⟨acc, ea, lac, l7⟩ := ((l4.same s5).same s6).push (x := (wd, ov)) (t := v) ⟨u, nD, ev, s6 _ _ eu⟩
      refine ⟨acc, ea, Nat.lt_of_le_of_lt (by rw [lac, List.length_take]; omega : acc.length ≤ 1000) (by decide), same_set (s4.trans (s5.trans s6)) hD, ?_⟩
      rw [take_more er]
      exact l7
    rintro H4 ⟨s4, l4⟩
    rw [List.length_map, rl.1, List.take_length] at l4
    have hh4 := l4.at
    have hl4 := hl3.same s4
    have t4 := t3.same s4
    clear el rl l4 hD hl3 t3 s4
    refine ⟨_, rfl, l, log, rfl, hl4, cl, l30, lw, fun H5 q5 bs s5 _ ll5 mem5 asc5 => ?_⟩
    have hh5 := hh4.same s5
    have hl5 := hl4.same s5
    have t5 := t4.same s5
    obtain ⟨as5, e5, lb5, _⟩ := ll5
    clear hh4 hl4 t4 s5
    have nd := asc_nodup asc5
    have lbs : bs.length ≤ 331 := by
      have h := nodup_le (ys := [] :: log.flatMap fun r => (List.range 11).map fun p => r.1.take p) nd fun b h => by
        rcases (mem5 b).1 h with z | ⟨r, hr, q⟩
        · rw [z]; exact List.mem_cons_self
        · refine List.mem_cons_of_mem _ (List.mem_flatMap.2 ⟨r, hr, List.mem_map.2 ⟨b.length, List.mem_range.2 ?_, (List.prefix_iff_eq_take.1 q).symm⟩⟩)
          have := q.length_le
          have := lw r hr
          omega
      refine Nat.le_trans h ?_
      rw [List.length_cons, List.length_flatMap]
      have e : (log.map fun r => ((List.range 11).map fun p => r.1.take p).length) = log.map fun _ => 11 := List.map_congr_left fun r _ => by rw [List.length_map, List.length_range]
      rw [e, List.map_const', List.sum_replicate_nat]
      omega
    have bl : ∀ b ∈ bs, b.length ≤ 10 := fun b hb => by
      rcases (mem5 b).1 hb with z | ⟨r, hr, h⟩
      · rw [z]; exact Nat.zero_le _
      · have := h.length_le
        have := lw r hr
        omega
    have las : as5.length = bs.length := lb5.1
    -- told
    refine ⟨_, rfl, D, log, rfl, hh5, cl, l30, lw, fun H6 q6 bs6 s6 _ ll6 mem6 asc6 => ?_⟩
    have e6 : bs6 = bs := asc_words (fun b => (mem6 b).trans (mem5 b).symm) asc6 asc5
    subst e6
    obtain ⟨as6, f6, lb6, fr6⟩ := ll6
    refine ⟨_, rfl, _, rfl, ne_same (dp_ll f6 lb6) (dp_ll (s6 _ _ e5) (lb5.same s6)) (shaped_ll _) ⟨_, rfl, ifDF rfl ?_⟩⟩
    have h0 : [] ∈ bs6 := (mem5 []).2 (.inl rfl)
    have lp : 0 < as6.length := by
      rw [lb6.1]
      exact List.length_pos_of_mem h0
    have ea6 := List.getElem?_eq_getElem lp
    generalize as6[0] = a6 at ea6
    have lpb : 0 < bs6.length := List.length_pos_of_mem h0
    have eb6 := List.getElem?_eq_getElem lpb
    have ml := bl _ (List.mem_of_getElem? eb6)
    generalize bs6[0] = b60 at eb6 ml
    have ha6 := lb6.2 0 a6 b60 ea6 eb6
    have fa6 := (fr6 a6 (List.mem_of_getElem? ea6)).1
    refine ⟨_, rfl, .inl ⟨q6, _, 0, .ref a6, rfl, rfl, SqL.of f6, atI_nat (j := 0) (getV ea6), ?_⟩⟩
    refine ⟨.inl ⟨rfl, _, SqL.of ha6⟩, a6, _, _, rfl, rfl, ha6, Nat.lt_of_le_of_lt (by rw [List.length_map]; omega : _ ≤ 1000) (by decide), ?_⟩
    have s7 : Same H5 (upd H6 a6 (.lst (b60.map V.int ++ [.int 0]))) := same_set s6 fa6
    generalize upd H6 a6 (.lst (b60.map V.int ++ [.int 0])) = H7 at *
    have hh7 := hh5.same s7
    have hl7 := hl5.same s7
    have t7 := t5.same s7
    have e7 := s7 _ _ e5
    have lb7 := lb5.same s7
    clear hh5 hl5 t5 e5 lb5 s6 f6 lb6 fr6 ha6 fa6 ea6 s7
    refine ⟨_, rfl, D, log, rfl, hh7, cl, l30, lw, fun H8 q8 bs8 s8 _ ll8 mem8 asc8 => ?_⟩
    have e8 : bs8 = bs6 := asc_words (fun b => (mem8 b).trans (mem5 b).symm) asc8 asc5
    subst e8
    obtain ⟨as8, f8, lb8, _⟩ := ll8
    have e78 := s8 _ _ e7
    have lb78 := lb7.same s8
    refine ⟨_, rfl, ne_same (dp_ll f8 lb8) (dp_ll e78 lb78) (shaped_ll _) ⟨_, rfl, ifDF rfl ?_⟩⟩
    have hh8 := hh7.same s8
    have hl8 := hl7.same s8
    have t8 := t7.same s8
    clear hh7 hl7 t7 e7 lb7 s8 f8 lb8
    refine ⟨_, rfl, q5, rfl, ⟨_, SqL.of e78⟩, fun D9 hD9 => ?_⟩
    refine it_any walk_list (fun i H' => Same H8 H' ∧ ∃ (ds : List Addr) (Ts : List Log), H' D9 = some (.lst (ds.map V.ref)) ∧ Rel TD H' ds Ts ∧ Ts.length = i ∧ ∀ (m : Nat) (b : List Int) (T : Log), bs8[m]? = some b → Ts[m]? = some T → Tails log b T) ⟨same_upd (Same.refl _) hD9, [], [], upd_same, Rel.nil, rfl, fun m b T _ h => by cases h⟩ (fun i H' _ z => SqL.of (z.1 _ _ e78)) ?_ ?_
    · rintro i x H9x H9 hi ⟨s9, ds, Ts, e9, r9, l9, c9⟩ ⟨rfl, hx⟩
      obtain ⟨t1, ht1, rfl⟩ := ofV hx
      have li : i < bs8.length := by
        have := (List.getElem?_eq_some_iff.1 ht1).1
        omega
      have eb := List.getElem?_eq_getElem li
      generalize bs8[i] = b at eb
      have hb := s9 _ _ (lb78.2 i t1 b ht1 eb)
      refine ⟨rfl, _, rfl, _, rfl, l, t1, log, b, rfl, hl8.same s9, hb, cl, l30, lw, fun H10 d T s10 fd hd tl => ?_⟩
      have e10 := s10 _ _ e9
      have ld : ds.length = i := r9.1.trans l9
      refine ⟨_, e10, Nat.lt_of_le_of_lt (by rw [List.length_map, ld]; omega : _ ≤ 1000) (by decide), same_set (s9.trans s10) hD9, ds ++ [d], Ts ++ [T], by rw [upd_same, List.map_append]; rfl, ?_, by rw [List.length_append, l9]; rfl, fun m y C hy hC => ?_⟩
      · have ne : ∀ {p : Addr} {T : Log}, TD H10 p T → TD (upd H10 D9 (.lst (ds.map V.ref ++ [.ref d]))) p T := fun {p T} h => (upd_ne fun z => by
          have h : H10 p = some (.dT (kvsO T)) := h
          rw [z, e10] at h
          cases h).trans h
        exact Rel.push (Rel.imp (Rel.imp r9 fun _ _ h => s10 _ _ h) fun _ _ => ne) (ne hd)
      · rcases Nat.lt_or_ge m Ts.length with q | q
        · rw [List.getElem?_append_left q] at hC
          exact c9 m y C hy hC
        · rw [List.getElem?_append_right q] at hC
          match hm : m - Ts.length, hC with
          | 0, hC =>
            cases hC
            have : m = i := by omega
            rw [this, eb] at hy
            cases hy
            exact tl
          | _ + 1, hC => cases hC
    rintro H9 ⟨s9, ds, Ts, e9, r9, l9, c9⟩
    rw [List.length_map, las] at l9
    have hh9 := hh8.same s9
    have hl9 := hl8.same s9
    have t9 := t8.same s9
    have eq9 := s9 _ _ e78
    have lb9 := lb78.same s9
    clear hh8 hl8 t8 e78 lb78 s9
    have bT : ∀ {k : Nat} {b : List Int}, bs8[k]? = some b → ∃ d T, ds[k]? = some d ∧ TD H9 d T ∧ Tails log b T := fun {k b} h => by
      have lk := (List.getElem?_eq_some_iff.1 h).1
      have h2 := List.getElem?_eq_getElem (show k < Ts.length by omega)
      have h1 := List.getElem?_eq_getElem (show k < ds.length by rw [r9.1]; omega)
      exact ⟨_, _, h1, r9.2 k _ _ h1 h2, c9 k _ _ h h2⟩
    obtain ⟨mm, rg, lt⟩ := rgc (n := bs8.length) (c := 1 + (bs8.length : Int) / 12) lbs (by omega) (by omega)
    have ix : ∀ {i : Nat}, i < mm → ∃ k, k < bs8.length ∧ ((0 : Int) + (i : Int) * (1 + (bs8.length : Int) / 12)) = ((k : Nat) : Int) := fun {i} hi => by
      have h1 := lt i hi
      have h2 : 0 ≤ (i : Int) * (1 + (bs8.length : Int) / 12) := Int.mul_nonneg (by omega) (by omega)
      generalize (i : Int) * (1 + (bs8.length : Int) / 12) = q at *
      exact ⟨q.toNat, by omega, by omega⟩
    have la5 : (as5.map V.ref).length = bs8.length := by rw [List.length_map, las]
    have kdt : ∀ {H' : Hp} {d : Addr} {T : Log}, KL [P1, P2, P3] H9 H' → TD H9 d T → TD H' d T := fun k h => k.keep _ _ (t9.ne h (fun _ z => by cases z)) h
    have klog : ∀ {H' : Hp} {x : Addr}, KL [P1, P2, P3] H9 H' → LogAt H9 x log → LogAt H' x log := fun {H' x} k h => by
      obtain ⟨us, h1, h2⟩ := h
      exact ⟨us, k.lst t9 h1, Rel.imp h2 fun _ _ ⟨a, f1, f2⟩ => ⟨a, k.tup t9 f1, k.lst t9 f2⟩⟩
    have kll : ∀ {H' : Hp}, KL [P1, P2, P3] H9 H' → LL H' as5 bs8 := fun k => ⟨lb9.1, fun i a w h1 h2 => k.lst t9 (lb9.2 i a w h1 h2)⟩
    refine ⟨_, rfl, q5, _, rfl, .inl (SqL.of eq9), _, rfl, q5, _, rfl, .inl (SqL.of eq9), ?_⟩
    rw [la5]
    refine ⟨_, _, rfl, rfl, ⟨by decide, by decide⟩, _, _, rfl, rfl, 0, (bs8.length : Int), 1 + (bs8.length : Int) / 12, mm, rfl, rg, ?_⟩
    refine for_rangeC (n := mm) (fun i σ H' => ∃ (v10 v11 : Option V), σ = [some (.ref sc), some (.ref p), some (.int L), some (.int O), some (.ref m), some (.ref l), some (.ref D), some (.ref q5), some (.ref q6), some (.ref D9), v10, v11, none, none, none, none] ∧ KL [P1, P2, P3] H9 H') ⟨_, _, rfl, KL.refl t9⟩ ?_ ?_
    · rintro i σ H10 hi ⟨v10, v11, rfl, k10⟩
      obtain ⟨ki, lki, eki⟩ := ix hi
      rw [eki]
      have e10 := k10.lst t9 eq9
      refine ⟨_, rfl, q5, _, rfl, .inl (SqL.of e10), _, rfl, q5, _, rfl, .inl (SqL.of e10), ?_⟩
      rw [la5]
      refine ⟨_, _, rfl, rfl, ⟨by decide, by decide⟩, _, _, rfl, rfl, 0, (bs8.length : Int), 1 + (bs8.length : Int) / 12, mm, rfl, rg, ?_⟩
      refine for_rangeC (n := mm) (fun j σ H' => ∃ (v11 : Option V), σ = [some (.ref sc), some (.ref p), some (.int L), some (.int O), some (.ref m), some (.ref l), some (.ref D), some (.ref q5), some (.ref q6), some (.ref D9), some (.int (ki : Int)), v11, none, none, none, none] ∧ KL [P1, P2, P3] H9 H') ⟨_, rfl, k10⟩ ?_ ?_
      · rintro j σ H11 hj ⟨v11', rfl, k11⟩
        obtain ⟨kj, lkj, ekj⟩ := ix hj
        rw [ekj]
        have e11 := k11.lst t9 eq9
        have d11 := k11.lst t9 e9
        have t11 := k11.tab
        have ei := List.getElem?_eq_getElem lki
        have ej := List.getElem?_eq_getElem lkj
        generalize bs8[ki] = u at ei
        generalize bs8[kj] = v at ej
        have ai := List.getElem?_eq_getElem (show ki < as5.length by omega)
        have aj := List.getElem?_eq_getElem (show kj < as5.length by omega)
        have ll11 := kll k11
        have hu := ll11.2 ki _ u ai ei
        have hv := ll11.2 kj _ v aj ej
        obtain ⟨du, Tu, gu1, gu2, gu3⟩ := bT ei
        obtain ⟨dv, Tv, gv1, gv2, gv3⟩ := bT ej
        have lu := bl u (List.mem_of_getElem? ei)
        have lv := bl v (List.mem_of_getElem? ej)
        refine ⟨_, rfl, _, rfl, _, rfl, .inl ⟨q5, _, _, _, rfl, rfl, SqL.of e11, atI_nat (getV ai), ?_⟩⟩
        refine ⟨_, rfl, _, rfl, .inl ⟨q5, _, _, _, rfl, rfl, SqL.of e11, atI_nat (getV aj), ?_⟩⟩
        refine ⟨D, _, _, log, u, v, rfl, klog k11 hh9, cl, l30, lw, hu, hv, by omega, by omega, t11 _ q2, fun H12 c k12 hc => ?_⟩
        have k912 := k11.kp q2 k12
        have d12 := k912.lst t9 e9
        refine ⟨_, rfl, _, rfl, .inl ⟨D9, _, _, _, rfl, rfl, SqL.of d12, atI_nat (getV gu1), ?_⟩⟩
        refine ⟨_, rfl, _, rfl, .inl ⟨D9, _, _, _, rfl, rfl, SqL.of d12, atI_nat (getV gv1), ?_⟩⟩
        refine ⟨du, dv, Tu, Tv, rfl, kdt k912 gu2, kdt k912 gv2, gu3.fn cl, fun H13 s13 => ?_⟩
        have eqc : c = contraB Tu Tv := by
          rw [Bool.eq_iff_iff, hc, contra_iff cl gu3 gv3]
        rw [eqc]
        exact ⟨rfl, _, rfl, ifDF (by rw [decide_eq_true rfl]; rfl) ⟨_, rfl, k912.same s13⟩⟩
      · rintro σ H11 ⟨v11', rfl, k11⟩
        exact ⟨_, _, rfl, k11⟩
    rintro σ H10 ⟨v10, v11, rfl, k10⟩
    dsimp only
    have none9 : ∀ {t : List Int} {o : Int}, ¬ DL log (List.replicate 9 0) t o := fun {t o} h => by
      have := w7 _ h
      have this : (List.replicate 9 (0 : Int) ++ t).length ≤ 7 := this
      rw [List.length_append, List.length_replicate] at this
      omega
    have t10 := k10.tab
    refine ifJoinS2 ?_
    refine ⟨_, rfl, ?_⟩
    refine rep9 fun H11 x1 s11 ex1 => ?_
    refine lit0 fun H12 x2 s12 ex2 => ?_
    have k12 := k10.same (s11.trans s12)
    have t12 := k12.tab
    refine ⟨D, x1, x2, log, List.replicate 9 0, [], rfl, klog k12 hh9, cl, l30, lw, s12 _ _ ex1, ex2, by decide, by decide, t12 _ q2, fun H13 c k13 hc => ?_⟩
    have c0 : c = false := by
      cases hcc : c with
      | false => rfl
      | true =>
        obtain ⟨t, o1, o2, h1, _, _⟩ := hc.1 hcc
        exact absurd h1 none9
    subst c0
    refine ⟨_, _, rfl, rfl, _, rfl, ifDF rfl ?_⟩
    have k913 := k12.kp q2 k13
    refine ⟨_, rfl, ?_⟩
    refine lit0 fun H14 x3 s14 ex3 => ?_
    refine rep9 fun H15 x4 s15 ex4 => ?_
    have k15 := k913.same (s14.trans s15)
    have t15 := k15.tab
    refine ⟨D, x3, x4, log, [], List.replicate 9 0, rfl, klog k15 hh9, cl, l30, lw, s15 _ _ ex3, ex4, by decide, by decide, t15 _ q2, fun H16 c k16 hc => ?_⟩
    have c0 : c = false := by
      cases hcc : c with
      | false => rfl
      | true =>
        obtain ⟨t, o1, o2, _, h2, _⟩ := hc.1 hcc
        exact absurd h2 none9
    subst c0
    refine ⟨_, _, rfl, rfl, _, rfl, ifDF rfl ?_⟩
    have k16 := k15.kp q2 k16
    have t16 := k16.tab
    -- the clash list
    refine ⟨_, rfl, _, rfl, _, rfl, L, O, D, log, rfl, klog k16 hh9, cl, inR, t16, fun H17 q17 ws bs17 k17 fq17 ll17 mem17 asc17 good => ?_⟩
    have eb17 : bs17 = bs8 := asc_words (fun b => (mem17 b).trans (mem5 b).symm) asc17 asc5
    subst eb17
    have k17 := k16.trans k17
    have t17 := k17.tab
    obtain ⟨as17, e17, lb17, _⟩ := ll17
    have eq17 := k17.lst t9 eq9
    have ll5 := kll k17
    have lws := good.sub.length_le
    refine ⟨_, rfl, _, rfl, q5, rfl, ⟨_, SqL.of eq17⟩, fun D18 hD18 => ?_⟩
    refine it_any walk_list (fun i H' => Same H17 H' ∧ ∃ es : List Addr, H' D18 = some (.lst (es.map V.ref)) ∧ LLd H' es ((bs17.take i).filter fun b => decide (b ∈ ws)) D18) ⟨same_upd (Same.refl _) hD18, [], upd_same, LLd.nil⟩ (fun i H' _ z => SqL.of (z.1 _ _ eq17)) ?_ ?_
    · rintro i x H18x H18 hi ⟨s18, es, e18, l18⟩ ⟨rfl, hx⟩
      obtain ⟨t1, ht1, rfl⟩ := ofV hx
      have li : i < bs17.length := by
        have := (List.getElem?_eq_some_iff.1 ht1).1
        omega
      have eb := List.getElem?_eq_getElem li
      generalize bs17[i] = b at eb
      have hb := s18 _ _ (ll5.2 i t1 b ht1 eb)
      refine ⟨rfl, _, rfl, _, rfl, ?_⟩
      refine ⟨dLst b, ws.map dLst, dp_l hb, dp_ll (s18 _ _ e17) (lb17.same s18), shaped_l b, shaped_ll ws, ?_⟩
      rw [any_ll]
      have sn : (bs17.take (i + 1)).filter (fun b => decide (b ∈ ws)) = (bs17.take i).filter (fun b => decide (b ∈ ws)) ++ (if decide (b ∈ ws) = true then [b] else []) := by
        rw [take_more eb, List.filter_append, List.filter_cons, List.filter_nil]
      have les : es.length ≤ 331 := by
        rw [l18.1.1]
        exact Nat.le_trans (List.length_filter_le ..) (by rw [List.length_take]; omega)
      cases hq : decide (b ∈ ws) with
      | true =>
        rw [hq] at sn
        refine ⟨_, rfl, ifDT rfl ⟨_, rfl, _, e18, Nat.lt_of_le_of_lt (by rw [List.length_map]; omega : _ ≤ 1000) (by decide), same_set s18 hD18, es ++ [t1], by rw [upd_same, List.map_append]; rfl, ?_⟩⟩
        rw [sn, if_pos rfl]
        exact l18.push hb (fun z => by
          have := ll5.2 i t1 b ht1 eb
          rw [z, hD18] at this
          cases this) _
      | false =>
        rw [hq] at sn
        refine ⟨_, rfl, ifDF rfl ⟨s18, es, e18, ?_⟩⟩
        rw [sn, if_neg (by decide), List.append_nil]
        exact l18
    rintro H18 ⟨s18, es, e18, l18⟩
    rw [la5, List.take_length, sub_filter good.sub nd] at l18
    have k18 := k17.same s18
    have t18 := k18.tab
    have e17b := s18 _ _ e17
    have lb18 := lb17.same s18
    refine ne_same (dp_ll e17b lb18) (dp_ll e18 l18.1) (shaped_ll _) ⟨_, rfl, ifDF rfl ?_⟩
    have la17 : (as17.map V.ref).length = ws.length := by rw [List.length_map, lb17.1]
    have lpw : 0 < ws.length := List.length_pos_iff.2 good.ne
    refine ⟨_, rfl, q17, _, rfl, .inl (SqL.of e17b), ?_⟩
    rw [la17]
    refine ⟨_, _, rfl, rfl, _, rfl, ifDF (decide_eq_false (by show ¬ (ws.length : Int) < 1; omega)) ?_⟩
    refine ⟨_, rfl, _, rfl, ne_same (log_dp (klog k18 hh9)) (log_dp (klog k18 hl9)) (shaped_log _) ⟨_, rfl, ifDF rfl ?_⟩⟩
    refine ⟨_, rfl, _, rfl, _, rfl, q17, q5, D9, as17, as5, ds, log, ws, bs17, Ts, rfl, e17b, lb18, k18.lst t9 eq9, kll k18, k18.lst t9 e9, Rel.imp r9 fun _ _ h => kdt k18 h, l9, c9, cl, good, lbs, nd, fun H19 s19 => ?_⟩
    have k19 := k18.same s19
    have t19 := k19.tab
    refine ⟨_, rfl, ifDF rfl ?_⟩
    obtain ⟨ts9, el9, rl9⟩ := klog k19 hl9
    have memws : ∀ b ∈ ws, BL log b := fun b hb => (mem5 b).1 (good.sub.subset hb)
    have last : ws.length ≤ 99 → tRet (tOp (rI0 fun i j => V.bl (decide (j ≤ i))) (tCall (spLStates P1) [] E0 (tCons (tVar 2) (tCons (tVar 3) (tCons (tVar 5) tNil)))) (tCB (rLenK K) (tCons (tVar 12) tNil))) { nx := fun _ H' => Q .non H', rt := Q } [some (.ref sc), some (.ref p), some (.int L), some (.int O), some (.ref m), some (.ref l), some (.ref D), some (.ref q5), some (.ref q6), some (.ref D9), v10, v11, some (.ref q17), none, none, none] H19 := fun w99 => by
      refine ⟨_, rfl, _, rfl, _, rfl, L, O, l, log, rfl, klog k19 hl9, t19 _ q1, inR, cl, fun H20 n k20 hn => ?_⟩
      have e20 := Kp.lst (t19 _ q1) k20 (s19 _ _ e17b)
      refine ⟨_, rfl, q17, _, rfl, .inl (SqL.of e20), ?_⟩
      rw [la17]
      refine ⟨_, _, rfl, rfl, ?_⟩
      have le : decide ((ws.length : Int) ≤ n) = true := by
        refine decide_eq_true ?_
        rcases hn with z | ⟨N, gN, lN, fN, z⟩
        · omega
        · have := clash_states gN lN fN inR good.two memws
          omega
      show Q (.bl (decide ((ws.length : Int) ≤ n))) _
      rw [le]
      exact fin _
    refine ⟨_, rfl, rfl, _, rfl, ?_⟩
    by_cases c2 : L = 2
    · refine ifDT (decide_eq_true (congrArg V.int c2)) ?_
      refine ⟨_, rfl, l, _, rfl, .inl (SqL.of el9), ?_⟩
      rw [List.length_map, rl9.1]
      refine ⟨_, _, rfl, rfl, _, rfl, ?_⟩
      by_cases c6 : log.length ≤ 6
      · refine ifDF (decide_eq_false (by show ¬ (6 : Int) < (log.length : Int); omega)) ?_
        exact last (Nat.le_trans lws (few_beg nd (fun b hb => (mem5 b).1 hb) w7 c6))
      · exact ifDT (decide_eq_true (by show (6 : Int) < (log.length : Int); omega)) (fin _)
    · refine ifDF (by rw [Mz.dec_int]; exact decide_eq_false c2) (ifDF rfl ?_)
      have L1' : L = 1 := by omega
      subst L1'
      exact last (Nat.le_trans lws (few_one nd (fun b hb => (mem5 b).1 hb) w7 inR))
end
end K42

set_option Elab.async false
set_option linter.all false
set_option maxRecDepth 100000
set_option maxHeartbeats 4000000
namespace K42
open PySem PySem.Spec PyProof.Rows L2 Mz
theorem all_mk {K : PySem.W.Frag} {h : Heap} {mg : Str → Option Value} {fa : Addr} (X : K.In h) (G : h.Ns mainGlobals mg) (hfa : mg "law" = some (.ref fa))
    {c_MaieuticError c_NotAllowed c_Missing c_Broken f_are_below f_is_word f_word_order f_check_log f_smallest f_smallest_parts f_longer_parts f_move_on f_state_rows f_beginnings f_do_clash f_clash_list f_endings f_contradict f_law_cell f_law_numbers f_law_machine f_law_state f_law_output f_law_log f_law_beginnings f_law_tails f_law_clash f_law_states f_law_list_good f_law : Addr} {od0 an0 od1 an1 od2 an2 od3 an3 od4 an4 od5 an5 od6 an6 od7 an7 od8 an8 od9 an9 od10 an10 od11 an11 od12 an12 od13 an13 od14 an14 od15 an15 od16 an16 od17 an17 od18 an18 od19 an19 od20 an20 od21 an21 od22 an22 od23 an23 od24 an24 od25 an25 : Option Addr} {sl0 sl1 sl2 sl3 sl4 sl5 sl6 sl7 sl8 sl9 sl10 sl11 sl12 sl13 sl14 sl15 sl16 sl17 sl18 sl19 sl20 sl21 sl22 sl23 sl24 sl25 : Array (Option Value)}
    {oc0 kV0 dc0 pm0 ct0 oc1 kV1 dc1 pm1 cd1 ct1 oc2 kV2 dc2 pm2 cd2 ct2 oc3 kV3 dc3 pm3 cd3 ct3 oc4 kV4 dc4 pm4 cd4 ct4 oc5 kV5 dc5 pm5 cd5 ct5 oc6 kV6 dc6 pm6 cd6 ct6 oc7 kV7 dc7 pm7 cd7 ct7 oc8 kV8 dc8 pm8 cd8 ct8 oc9 kV9 dc9 pm9 cd9 ct9 oc10 kV10 dc10 pm10 cd10 ct10 oc11 kV11 dc11 pm11 ct11 oc12 kV12 dc12 pm12 cd12 ct12 oc13 kV13 dc13 pm13 ct13 oc14 kV14 dc14 pm14 cd14 ct14 oc15 kV15 dc15 pm15 cd15 ct15 oc16 kV16 dc16 pm16 cd16 ct16 oc17 kV17 dc17 pm17 cd17 ct17 oc18 kV18 dc18 pm18 cd18 ct18 oc19 kV19 dc19 pm19 cd19 ct19 oc20 kV20 dc20 pm20 cd20 ct20 oc21 kV21 dc21 pm21 cd21 ct21 oc22 kV22 dc22 pm22 cd22 ct22 oc23 kV23 dc23 pm23 cd23 ct23 oc24 kV24 dc24 pm24 cd24 ct24 oc25 kV25 dc25 pm25 cd25 ct25 vc0 vc1 vc2 vc3 vc4 : Value}
    {tc0 tp0 : Addr} {te0 : Value} {td0 : Option Addr} {tv0 : Array Value} {ts0 : Array (Option Value)}
    {tc11 tp11 : Addr} {te11 : Value} {td11 : Option Addr} {tv11 : Array Value} {ts11 : Array (Option Value)}
    {tc13 tp13 : Addr} {te13 : Value} {td13 : Option Addr} {tv13 : Array Value} {ts13 : Array (Option Value)}
    (r_MaieuticError : PySem.W.nsIn K mainGlobals "MaieuticError" = some (some (.ref c_MaieuticError)))
    (rx_MaieuticError : PySem.W.excIn K c_MaieuticError [.type "ValueError", .type "Exception", .type "BaseException", .type "object"] "ValueError.__new__" = true)
    (rk_MaieuticError : PySem.W.keepIn K (.ref c_MaieuticError) = true)
    (rb_MaieuticError : PySem.W.subIn K (.ref c_MaieuticError) (.type "BaseException") = some true)
    (rt_MaieuticError : PySem.W.typeIn K (.ref c_MaieuticError) = some (.type "type"))
    (rga_MaieuticError : PySem.W.findIn K (.ref c_MaieuticError) "__getattribute__" = some (some (.builtin "BaseException.__getattribute__")))
    (rgg_MaieuticError : PySem.W.findIn K (.ref c_MaieuticError) "__getattr__" = some none)
    (rh_MaieuticError : PySem.W.hasDictIn K c_MaieuticError = true)
    (rc_MaieuticError : PySem.W.findIn K (.ref c_MaieuticError) "__class__" = some (some (.builtin "object.__class__")))
    (rm_MaieuticError : PySem.W.mroIn K c_MaieuticError (.type "object") = some true)
    (r_NotAllowed : PySem.W.nsIn K mainGlobals "NotAllowed" = some (some (.ref c_NotAllowed)))
    (rx_NotAllowed : PySem.W.excIn K c_NotAllowed [.type "ValueError", .type "Exception", .type "BaseException", .type "object"] "ValueError.__new__" = true)
    (rk_NotAllowed : PySem.W.keepIn K (.ref c_NotAllowed) = true)
    (rb_NotAllowed : PySem.W.subIn K (.ref c_NotAllowed) (.type "BaseException") = some true)
    (rt_NotAllowed : PySem.W.typeIn K (.ref c_NotAllowed) = some (.type "type"))
    (rga_NotAllowed : PySem.W.findIn K (.ref c_NotAllowed) "__getattribute__" = some (some (.builtin "BaseException.__getattribute__")))
    (rgg_NotAllowed : PySem.W.findIn K (.ref c_NotAllowed) "__getattr__" = some none)
    (rh_NotAllowed : PySem.W.hasDictIn K c_NotAllowed = true)
    (rc_NotAllowed : PySem.W.findIn K (.ref c_NotAllowed) "__class__" = some (some (.builtin "object.__class__")))
    (rm_NotAllowed : PySem.W.mroIn K c_NotAllowed (.type "object") = some true)
    (r_Missing : PySem.W.nsIn K mainGlobals "Missing" = some (some (.ref c_Missing)))
    (rx_Missing : PySem.W.excIn K c_Missing [.type "ValueError", .type "Exception", .type "BaseException", .type "object"] "ValueError.__new__" = true)
    (rk_Missing : PySem.W.keepIn K (.ref c_Missing) = true)
    (rb_Missing : PySem.W.subIn K (.ref c_Missing) (.type "BaseException") = some true)
    (rt_Missing : PySem.W.typeIn K (.ref c_Missing) = some (.type "type"))
    (rga_Missing : PySem.W.findIn K (.ref c_Missing) "__getattribute__" = some (some (.builtin "BaseException.__getattribute__")))
    (rgg_Missing : PySem.W.findIn K (.ref c_Missing) "__getattr__" = some none)
    (rh_Missing : PySem.W.hasDictIn K c_Missing = true)
    (rc_Missing : PySem.W.findIn K (.ref c_Missing) "__class__" = some (some (.builtin "object.__class__")))
    (rm_Missing : PySem.W.mroIn K c_Missing (.type "object") = some true)
    (r_Broken : PySem.W.nsIn K mainGlobals "Broken" = some (some (.ref c_Broken)))
    (rx_Broken : PySem.W.excIn K c_Broken [.type "ValueError", .type "Exception", .type "BaseException", .type "object"] "ValueError.__new__" = true)
    (rk_Broken : PySem.W.keepIn K (.ref c_Broken) = true)
    (rb_Broken : PySem.W.subIn K (.ref c_Broken) (.type "BaseException") = some true)
    (rt_Broken : PySem.W.typeIn K (.ref c_Broken) = some (.type "type"))
    (rga_Broken : PySem.W.findIn K (.ref c_Broken) "__getattribute__" = some (some (.builtin "BaseException.__getattribute__")))
    (rgg_Broken : PySem.W.findIn K (.ref c_Broken) "__getattr__" = some none)
    (rh_Broken : PySem.W.hasDictIn K c_Broken = true)
    (rc_Broken : PySem.W.findIn K (.ref c_Broken) "__class__" = some (some (.builtin "object.__class__")))
    (rm_Broken : PySem.W.mroIn K c_Broken (.type "object") = some true)
    (ra1 : PySem.W.specialIn K (.builtin "object.__class__") "__get__" = some (some (.builtin "getset_descriptor.__get__")))
    (ra2 : PySem.W.takesIn K (.builtin "object.__class__") = some true)
    (rsu_MaieuticError_MaieuticError : PySem.W.subIn K (.ref c_MaieuticError) (.ref c_MaieuticError) = some true)
    (rsu_MaieuticError_NotAllowed : PySem.W.subIn K (.ref c_MaieuticError) (.ref c_NotAllowed) = some false)
    (rsu_MaieuticError_Missing : PySem.W.subIn K (.ref c_MaieuticError) (.ref c_Missing) = some false)
    (rsu_MaieuticError_Broken : PySem.W.subIn K (.ref c_MaieuticError) (.ref c_Broken) = some false)
    (rsu_NotAllowed_MaieuticError : PySem.W.subIn K (.ref c_NotAllowed) (.ref c_MaieuticError) = some true)
    (rsu_NotAllowed_NotAllowed : PySem.W.subIn K (.ref c_NotAllowed) (.ref c_NotAllowed) = some true)
    (rsu_NotAllowed_Missing : PySem.W.subIn K (.ref c_NotAllowed) (.ref c_Missing) = some false)
    (rsu_NotAllowed_Broken : PySem.W.subIn K (.ref c_NotAllowed) (.ref c_Broken) = some false)
    (rsu_Missing_MaieuticError : PySem.W.subIn K (.ref c_Missing) (.ref c_MaieuticError) = some true)
    (rsu_Missing_NotAllowed : PySem.W.subIn K (.ref c_Missing) (.ref c_NotAllowed) = some false)
    (rsu_Missing_Missing : PySem.W.subIn K (.ref c_Missing) (.ref c_Missing) = some true)
    (rsu_Missing_Broken : PySem.W.subIn K (.ref c_Missing) (.ref c_Broken) = some false)
    (rsu_Broken_MaieuticError : PySem.W.subIn K (.ref c_Broken) (.ref c_MaieuticError) = some true)
    (rsu_Broken_NotAllowed : PySem.W.subIn K (.ref c_Broken) (.ref c_NotAllowed) = some false)
    (rsu_Broken_Missing : PySem.W.subIn K (.ref c_Broken) (.ref c_Missing) = some false)
    (rsu_Broken_Broken : PySem.W.subIn K (.ref c_Broken) (.ref c_Broken) = some true)
    (q_are_below : PySem.W.nsIn K mainGlobals "are_below" = some (some (.ref f_are_below)))
    (l_are_below : K.lookup f_are_below = some ⟨oc0, od0, .func (PySem.W.fnOf "are_below" "are_below" (defArgs s_are_below) (defBody s_are_below) (defScope s_are_below) .none kV0 dc0 pm0 an0 (.ref tc0) ct0), sl0⟩)
    (cc_are_below : PySem.W.codeIn K (.ref tc0) "are_below" = true)
    (tk_are_below : K.lookup tc0 = some ⟨te0, td0, .fields tv0, ts0⟩)
    (tv_are_below : (tv0[11]? : Option Value) = some (.ref tp0))
    (tn_are_below : K.lookup tp0 = none)
    (kk_are_below : PySem.W.keepIn K (.ref f_are_below) = true)
    (q_is_word : PySem.W.nsIn K mainGlobals "is_word" = some (some (.ref f_is_word)))
    (l_is_word : K.lookup f_is_word = some ⟨oc1, od1, .func (PySem.W.fnOf "is_word" "is_word" (defArgs s_is_word) (defBody s_is_word) (defScope s_is_word) .none kV1 dc1 pm1 an1 cd1 ct1), sl1⟩)
    (cc_is_word : PySem.W.codeIn K cd1 "is_word" = true)
    (kk_is_word : PySem.W.keepIn K (.ref f_is_word) = true)
    (q_word_order : PySem.W.nsIn K mainGlobals "word_order" = some (some (.ref f_word_order)))
    (l_word_order : K.lookup f_word_order = some ⟨oc2, od2, .func (PySem.W.fnOf "word_order" "word_order" (defArgs s_word_order) (defBody s_word_order) (defScope s_word_order) .none kV2 dc2 pm2 an2 cd2 ct2), sl2⟩)
    (cc_word_order : PySem.W.codeIn K cd2 "word_order" = true)
    (kk_word_order : PySem.W.keepIn K (.ref f_word_order) = true)
    (q_check_log : PySem.W.nsIn K mainGlobals "check_log" = some (some (.ref f_check_log)))
    (l_check_log : K.lookup f_check_log = some ⟨oc3, od3, .func (PySem.W.fnOf "check_log" "check_log" (defArgs s_check_log) (defBody s_check_log) (defScope s_check_log) .none kV3 dc3 pm3 an3 cd3 ct3), sl3⟩)
    (cc_check_log : PySem.W.codeIn K cd3 "check_log" = true)
    (kk_check_log : PySem.W.keepIn K (.ref f_check_log) = true)
    (q_smallest : PySem.W.nsIn K mainGlobals "smallest" = some (some (.ref f_smallest)))
    (l_smallest : K.lookup f_smallest = some ⟨oc4, od4, .func (PySem.W.fnOf "smallest" "smallest" (defArgs s_smallest) (defBody s_smallest) (defScope s_smallest) .none kV4 dc4 pm4 an4 cd4 ct4), sl4⟩)
    (cc_smallest : PySem.W.codeIn K cd4 "smallest" = true)
    (kk_smallest : PySem.W.keepIn K (.ref f_smallest) = true)
    (q_smallest_parts : PySem.W.nsIn K mainGlobals "_smallest_parts" = some (some (.ref f_smallest_parts)))
    (l_smallest_parts : K.lookup f_smallest_parts = some ⟨oc5, od5, .func (PySem.W.fnOf "_smallest_parts" "_smallest_parts" (defArgs s_smallest_parts) (defBody s_smallest_parts) (defScope s_smallest_parts) .none kV5 dc5 pm5 an5 cd5 ct5), sl5⟩)
    (cc_smallest_parts : PySem.W.codeIn K cd5 "_smallest_parts" = true)
    (kk_smallest_parts : PySem.W.keepIn K (.ref f_smallest_parts) = true)
    (q_longer_parts : PySem.W.nsIn K mainGlobals "_longer_parts" = some (some (.ref f_longer_parts)))
    (l_longer_parts : K.lookup f_longer_parts = some ⟨oc6, od6, .func (PySem.W.fnOf "_longer_parts" "_longer_parts" (defArgs s_longer_parts) (defBody s_longer_parts) (defScope s_longer_parts) .none kV6 dc6 pm6 an6 cd6 ct6), sl6⟩)
    (cc_longer_parts : PySem.W.codeIn K cd6 "_longer_parts" = true)
    (kk_longer_parts : PySem.W.keepIn K (.ref f_longer_parts) = true)
    (q_move_on : PySem.W.nsIn K mainGlobals "_move_on" = some (some (.ref f_move_on)))
    (l_move_on : K.lookup f_move_on = some ⟨oc7, od7, .func (PySem.W.fnOf "_move_on" "_move_on" (defArgs s_move_on) (defBody s_move_on) (defScope s_move_on) .none kV7 dc7 pm7 an7 cd7 ct7), sl7⟩)
    (cc_move_on : PySem.W.codeIn K cd7 "_move_on" = true)
    (kk_move_on : PySem.W.keepIn K (.ref f_move_on) = true)
    (q_state_rows : PySem.W.nsIn K mainGlobals "_state_rows" = some (some (.ref f_state_rows)))
    (l_state_rows : K.lookup f_state_rows = some ⟨oc8, od8, .func (PySem.W.fnOf "_state_rows" "_state_rows" (defArgs s_state_rows) (defBody s_state_rows) (defScope s_state_rows) .none kV8 dc8 pm8 an8 cd8 ct8), sl8⟩)
    (cc_state_rows : PySem.W.codeIn K cd8 "_state_rows" = true)
    (kk_state_rows : PySem.W.keepIn K (.ref f_state_rows) = true)
    (q_beginnings : PySem.W.nsIn K mainGlobals "beginnings" = some (some (.ref f_beginnings)))
    (l_beginnings : K.lookup f_beginnings = some ⟨oc9, od9, .func (PySem.W.fnOf "beginnings" "beginnings" (defArgs s_beginnings) (defBody s_beginnings) (defScope s_beginnings) .none kV9 dc9 pm9 an9 cd9 ct9), sl9⟩)
    (cc_beginnings : PySem.W.codeIn K cd9 "beginnings" = true)
    (kk_beginnings : PySem.W.keepIn K (.ref f_beginnings) = true)
    (q_do_clash : PySem.W.nsIn K mainGlobals "do_clash" = some (some (.ref f_do_clash)))
    (l_do_clash : K.lookup f_do_clash = some ⟨oc10, od10, .func (PySem.W.fnOf "do_clash" "do_clash" (defArgs s_do_clash) (defBody s_do_clash) (defScope s_do_clash) .none kV10 dc10 pm10 an10 cd10 ct10), sl10⟩)
    (cc_do_clash : PySem.W.codeIn K cd10 "do_clash" = true)
    (kk_do_clash : PySem.W.keepIn K (.ref f_do_clash) = true)
    (q_clash_list : PySem.W.nsIn K mainGlobals "clash_list" = some (some (.ref f_clash_list)))
    (l_clash_list : K.lookup f_clash_list = some ⟨oc11, od11, .func (PySem.W.fnOf "clash_list" "clash_list" (defArgs s_clash_list) (defBody s_clash_list) (defScope s_clash_list) .none kV11 dc11 pm11 an11 (.ref tc11) ct11), sl11⟩)
    (cc_clash_list : PySem.W.codeIn K (.ref tc11) "clash_list" = true)
    (tk_clash_list : K.lookup tc11 = some ⟨te11, td11, .fields tv11, ts11⟩)
    (tv_clash_list : (tv11[11]? : Option Value) = some (.ref tp11))
    (tn_clash_list : K.lookup tp11 = none)
    (kk_clash_list : PySem.W.keepIn K (.ref f_clash_list) = true)
    (q_endings : PySem.W.nsIn K mainGlobals "_endings" = some (some (.ref f_endings)))
    (l_endings : K.lookup f_endings = some ⟨oc12, od12, .func (PySem.W.fnOf "_endings" "_endings" (defArgs s_endings) (defBody s_endings) (defScope s_endings) .none kV12 dc12 pm12 an12 cd12 ct12), sl12⟩)
    (cc_endings : PySem.W.codeIn K cd12 "_endings" = true)
    (kk_endings : PySem.W.keepIn K (.ref f_endings) = true)
    (q_contradict : PySem.W.nsIn K mainGlobals "_contradict" = some (some (.ref f_contradict)))
    (l_contradict : K.lookup f_contradict = some ⟨oc13, od13, .func (PySem.W.fnOf "_contradict" "_contradict" (defArgs s_contradict) (defBody s_contradict) (defScope s_contradict) .none kV13 dc13 pm13 an13 (.ref tc13) ct13), sl13⟩)
    (cc_contradict : PySem.W.codeIn K (.ref tc13) "_contradict" = true)
    (tk_contradict : K.lookup tc13 = some ⟨te13, td13, .fields tv13, ts13⟩)
    (tv_contradict : (tv13[11]? : Option Value) = some (.ref tp13))
    (tn_contradict : K.lookup tp13 = none)
    (kk_contradict : PySem.W.keepIn K (.ref f_contradict) = true)
    (q_law_cell : PySem.W.nsIn K mainGlobals "_law_cell" = some (some (.ref f_law_cell)))
    (l_law_cell : K.lookup f_law_cell = some ⟨oc14, od14, .func (PySem.W.fnOf "_law_cell" "_law_cell" (defArgs s_law_cell) (defBody s_law_cell) (defScope s_law_cell) .none kV14 dc14 pm14 an14 cd14 ct14), sl14⟩)
    (cc_law_cell : PySem.W.codeIn K cd14 "_law_cell" = true)
    (kk_law_cell : PySem.W.keepIn K (.ref f_law_cell) = true)
    (q_law_numbers : PySem.W.nsIn K mainGlobals "_law_numbers" = some (some (.ref f_law_numbers)))
    (l_law_numbers : K.lookup f_law_numbers = some ⟨oc15, od15, .func (PySem.W.fnOf "_law_numbers" "_law_numbers" (defArgs s_law_numbers) (defBody s_law_numbers) (defScope s_law_numbers) .none kV15 dc15 pm15 an15 cd15 ct15), sl15⟩)
    (cc_law_numbers : PySem.W.codeIn K cd15 "_law_numbers" = true)
    (kk_law_numbers : PySem.W.keepIn K (.ref f_law_numbers) = true)
    (q_law_machine : PySem.W.nsIn K mainGlobals "_law_machine" = some (some (.ref f_law_machine)))
    (l_law_machine : K.lookup f_law_machine = some ⟨oc16, od16, .func (PySem.W.fnOf "_law_machine" "_law_machine" (defArgs s_law_machine) (defBody s_law_machine) (defScope s_law_machine) .none kV16 dc16 pm16 an16 cd16 ct16), sl16⟩)
    (cc_law_machine : PySem.W.codeIn K cd16 "_law_machine" = true)
    (kk_law_machine : PySem.W.keepIn K (.ref f_law_machine) = true)
    (q_law_state : PySem.W.nsIn K mainGlobals "_law_state" = some (some (.ref f_law_state)))
    (l_law_state : K.lookup f_law_state = some ⟨oc17, od17, .func (PySem.W.fnOf "_law_state" "_law_state" (defArgs s_law_state) (defBody s_law_state) (defScope s_law_state) .none kV17 dc17 pm17 an17 cd17 ct17), sl17⟩)
    (cc_law_state : PySem.W.codeIn K cd17 "_law_state" = true)
    (kk_law_state : PySem.W.keepIn K (.ref f_law_state) = true)
    (q_law_output : PySem.W.nsIn K mainGlobals "_law_output" = some (some (.ref f_law_output)))
    (l_law_output : K.lookup f_law_output = some ⟨oc18, od18, .func (PySem.W.fnOf "_law_output" "_law_output" (defArgs s_law_output) (defBody s_law_output) (defScope s_law_output) .none kV18 dc18 pm18 an18 cd18 ct18), sl18⟩)
    (cc_law_output : PySem.W.codeIn K cd18 "_law_output" = true)
    (kk_law_output : PySem.W.keepIn K (.ref f_law_output) = true)
    (q_law_log : PySem.W.nsIn K mainGlobals "_law_log" = some (some (.ref f_law_log)))
    (l_law_log : K.lookup f_law_log = some ⟨oc19, od19, .func (PySem.W.fnOf "_law_log" "_law_log" (defArgs s_law_log) (defBody s_law_log) (defScope s_law_log) .none kV19 dc19 pm19 an19 cd19 ct19), sl19⟩)
    (cc_law_log : PySem.W.codeIn K cd19 "_law_log" = true)
    (kk_law_log : PySem.W.keepIn K (.ref f_law_log) = true)
    (q_law_beginnings : PySem.W.nsIn K mainGlobals "_law_beginnings" = some (some (.ref f_law_beginnings)))
    (l_law_beginnings : K.lookup f_law_beginnings = some ⟨oc20, od20, .func (PySem.W.fnOf "_law_beginnings" "_law_beginnings" (defArgs s_law_beginnings) (defBody s_law_beginnings) (defScope s_law_beginnings) .none kV20 dc20 pm20 an20 cd20 ct20), sl20⟩)
    (cc_law_beginnings : PySem.W.codeIn K cd20 "_law_beginnings" = true)
    (kk_law_beginnings : PySem.W.keepIn K (.ref f_law_beginnings) = true)
    (q_law_tails : PySem.W.nsIn K mainGlobals "_law_tails" = some (some (.ref f_law_tails)))
    (l_law_tails : K.lookup f_law_tails = some ⟨oc21, od21, .func (PySem.W.fnOf "_law_tails" "_law_tails" (defArgs s_law_tails) (defBody s_law_tails) (defScope s_law_tails) .none kV21 dc21 pm21 an21 cd21 ct21), sl21⟩)
    (cc_law_tails : PySem.W.codeIn K cd21 "_law_tails" = true)
    (kk_law_tails : PySem.W.keepIn K (.ref f_law_tails) = true)
    (q_law_clash : PySem.W.nsIn K mainGlobals "_law_clash" = some (some (.ref f_law_clash)))
    (l_law_clash : K.lookup f_law_clash = some ⟨oc22, od22, .func (PySem.W.fnOf "_law_clash" "_law_clash" (defArgs s_law_clash) (defBody s_law_clash) (defScope s_law_clash) .none kV22 dc22 pm22 an22 cd22 ct22), sl22⟩)
    (cc_law_clash : PySem.W.codeIn K cd22 "_law_clash" = true)
    (kk_law_clash : PySem.W.keepIn K (.ref f_law_clash) = true)
    (q_law_states : PySem.W.nsIn K mainGlobals "_law_states" = some (some (.ref f_law_states)))
    (l_law_states : K.lookup f_law_states = some ⟨oc23, od23, .func (PySem.W.fnOf "_law_states" "_law_states" (defArgs s_law_states) (defBody s_law_states) (defScope s_law_states) .none kV23 dc23 pm23 an23 cd23 ct23), sl23⟩)
    (cc_law_states : PySem.W.codeIn K cd23 "_law_states" = true)
    (kk_law_states : PySem.W.keepIn K (.ref f_law_states) = true)
    (q_law_list_good : PySem.W.nsIn K mainGlobals "_law_list_good" = some (some (.ref f_law_list_good)))
    (l_law_list_good : K.lookup f_law_list_good = some ⟨oc24, od24, .func (PySem.W.fnOf "_law_list_good" "_law_list_good" (defArgs s_law_list_good) (defBody s_law_list_good) (defScope s_law_list_good) .none kV24 dc24 pm24 an24 cd24 ct24), sl24⟩)
    (cc_law_list_good : PySem.W.codeIn K cd24 "_law_list_good" = true)
    (kk_law_list_good : PySem.W.keepIn K (.ref f_law_list_good) = true)
    (q_law : PySem.W.nsIn K mainGlobals "law" = some (some (.ref f_law)))
    (l_law : K.lookup f_law = some ⟨oc25, od25, .func (PySem.W.fnOf "law" "law" (defArgs s_law) (defBody s_law) (defScope s_law) .none kV25 dc25 pm25 an25 cd25 ct25), sl25⟩)
    (cc_law : PySem.W.codeIn K cd25 "law" = true)
    (kk_law : PySem.W.keepIn K (.ref f_law) = true)
    (vv_MAX_OUTS : PySem.W.nsIn K mainGlobals "MAX_OUTS" = some (some vc0))
    (vr_MAX_OUTS : RelV (.int 6) vc0)
    (vv_MAX_LOG_LETTERS : PySem.W.nsIn K mainGlobals "MAX_LOG_LETTERS" = some (some vc1))
    (vr_MAX_LOG_LETTERS : RelV (.int 2) vc1)
    (vv_MAX_LOG : PySem.W.nsIn K mainGlobals "MAX_LOG" = some (some vc2))
    (vr_MAX_LOG : RelV (.int 30) vc2)
    (vv_MAX_SEEN : PySem.W.nsIn K mainGlobals "MAX_SEEN" = some (some vc3))
    (vr_MAX_SEEN : RelV (.int 10) vc3)
    (vv_MAX_SMALL : PySem.W.nsIn K mainGlobals "MAX_SMALL" = some (some vc4))
    (vr_MAX_SMALL : RelV (.int 4) vc4)
    (z_all : PySem.W.nsIn K mainGlobals "all" = some none)
    (z_len : PySem.W.nsIn K mainGlobals "len" = some none)
    (z_tuple : PySem.W.nsIn K mainGlobals "tuple" = some none)
    (z_min : PySem.W.nsIn K mainGlobals "min" = some none)
    (z_range : PySem.W.nsIn K mainGlobals "range" = some none)
    (z_max : PySem.W.nsIn K mainGlobals "max" = some none)
    (z_sorted : PySem.W.nsIn K mainGlobals "sorted" = some none)
    (z_any : PySem.W.nsIn K mainGlobals "any" = some none)
    (z_int : PySem.W.nsIn K mainGlobals "int" = some none)
    (z_list : PySem.W.nsIn K mainGlobals "list" = some none)
    (nt_are_below_clash_list : tp0 ≠ tp11)
    (nt_are_below_contradict : tp0 ≠ tp13)
    (nt_clash_list_contradict : tp11 ≠ tp13) :
    ∃ (A : Ads) (c_are_below t_are_below : Addr) (c_clash_list t_clash_list : Addr) (c_contradict t_contradict : Addr), A.a_law = fa ∧ Txt K mg A ∧ (∀ (s : Shared) (v : Value), BindsTo s A.d_law ⟨[v], []⟩ [("script", v)]) ∧ A.d_are_below.code = .ref c_are_below ∧ PySem.W.tabIn K "are_below" = some (c_are_below, t_are_below) ∧ K.lookup t_are_below = none ∧ A.d_clash_list.code = .ref c_clash_list ∧ PySem.W.tabIn K "clash_list" = some (c_clash_list, t_clash_list) ∧ K.lookup t_clash_list = none ∧ A.d_contradict.code = .ref c_contradict ∧ PySem.W.tabIn K "_contradict" = some (c_contradict, t_contradict) ∧ K.lookup t_contradict = none ∧ t_are_below ≠ t_clash_list ∧ t_are_below ≠ t_contradict ∧ t_clash_list ≠ t_contradict := by
  have e := hfa.symm.trans (PySem.W.mg_of X G q_law)
  cases e
  have tab_are_below : PySem.W.tabIn K "are_below" = some (tc0, tp0) := by
    unfold PySem.W.tabIn
    rw [q_are_below]
    dsimp only
    rw [l_are_below]
    dsimp only [PySem.W.fnOf]
    rw [tk_are_below]
    dsimp only
    rw [tv_are_below]
  have tab_clash_list : PySem.W.tabIn K "clash_list" = some (tc11, tp11) := by
    unfold PySem.W.tabIn
    rw [q_clash_list]
    dsimp only
    rw [l_clash_list]
    dsimp only [PySem.W.fnOf]
    rw [tk_clash_list]
    dsimp only
    rw [tv_clash_list]
  have tab_contradict : PySem.W.tabIn K "_contradict" = some (tc13, tp13) := by
    unfold PySem.W.tabIn
    rw [q_contradict]
    dsimp only
    rw [l_contradict]
    dsimp only [PySem.W.fnOf]
    rw [tk_contradict]
    dsimp only
    rw [tv_contradict]
  refine ⟨{ a_MaieuticError := c_MaieuticError, a_NotAllowed := c_NotAllowed, a_Missing := c_Missing, a_Broken := c_Broken, a_are_below := f_are_below, d_are_below := PySem.W.fnOf "are_below" "are_below" (defArgs s_are_below) (defBody s_are_below) (defScope s_are_below) .none kV0 dc0 pm0 an0 (.ref tc0) ct0, a_is_word := f_is_word, d_is_word := PySem.W.fnOf "is_word" "is_word" (defArgs s_is_word) (defBody s_is_word) (defScope s_is_word) .none kV1 dc1 pm1 an1 cd1 ct1, a_word_order := f_word_order, d_word_order := PySem.W.fnOf "word_order" "word_order" (defArgs s_word_order) (defBody s_word_order) (defScope s_word_order) .none kV2 dc2 pm2 an2 cd2 ct2, a_check_log := f_check_log, d_check_log := PySem.W.fnOf "check_log" "check_log" (defArgs s_check_log) (defBody s_check_log) (defScope s_check_log) .none kV3 dc3 pm3 an3 cd3 ct3, a_smallest := f_smallest, d_smallest := PySem.W.fnOf "smallest" "smallest" (defArgs s_smallest) (defBody s_smallest) (defScope s_smallest) .none kV4 dc4 pm4 an4 cd4 ct4, a_smallest_parts := f_smallest_parts, d_smallest_parts := PySem.W.fnOf "_smallest_parts" "_smallest_parts" (defArgs s_smallest_parts) (defBody s_smallest_parts) (defScope s_smallest_parts) .none kV5 dc5 pm5 an5 cd5 ct5, a_longer_parts := f_longer_parts, d_longer_parts := PySem.W.fnOf "_longer_parts" "_longer_parts" (defArgs s_longer_parts) (defBody s_longer_parts) (defScope s_longer_parts) .none kV6 dc6 pm6 an6 cd6 ct6, a_move_on := f_move_on, d_move_on := PySem.W.fnOf "_move_on" "_move_on" (defArgs s_move_on) (defBody s_move_on) (defScope s_move_on) .none kV7 dc7 pm7 an7 cd7 ct7, a_state_rows := f_state_rows, d_state_rows := PySem.W.fnOf "_state_rows" "_state_rows" (defArgs s_state_rows) (defBody s_state_rows) (defScope s_state_rows) .none kV8 dc8 pm8 an8 cd8 ct8, a_beginnings := f_beginnings, d_beginnings := PySem.W.fnOf "beginnings" "beginnings" (defArgs s_beginnings) (defBody s_beginnings) (defScope s_beginnings) .none kV9 dc9 pm9 an9 cd9 ct9, a_do_clash := f_do_clash, d_do_clash := PySem.W.fnOf "do_clash" "do_clash" (defArgs s_do_clash) (defBody s_do_clash) (defScope s_do_clash) .none kV10 dc10 pm10 an10 cd10 ct10, a_clash_list := f_clash_list, d_clash_list := PySem.W.fnOf "clash_list" "clash_list" (defArgs s_clash_list) (defBody s_clash_list) (defScope s_clash_list) .none kV11 dc11 pm11 an11 (.ref tc11) ct11, a_endings := f_endings, d_endings := PySem.W.fnOf "_endings" "_endings" (defArgs s_endings) (defBody s_endings) (defScope s_endings) .none kV12 dc12 pm12 an12 cd12 ct12, a_contradict := f_contradict, d_contradict := PySem.W.fnOf "_contradict" "_contradict" (defArgs s_contradict) (defBody s_contradict) (defScope s_contradict) .none kV13 dc13 pm13 an13 (.ref tc13) ct13, a_law_cell := f_law_cell, d_law_cell := PySem.W.fnOf "_law_cell" "_law_cell" (defArgs s_law_cell) (defBody s_law_cell) (defScope s_law_cell) .none kV14 dc14 pm14 an14 cd14 ct14, a_law_numbers := f_law_numbers, d_law_numbers := PySem.W.fnOf "_law_numbers" "_law_numbers" (defArgs s_law_numbers) (defBody s_law_numbers) (defScope s_law_numbers) .none kV15 dc15 pm15 an15 cd15 ct15, a_law_machine := f_law_machine, d_law_machine := PySem.W.fnOf "_law_machine" "_law_machine" (defArgs s_law_machine) (defBody s_law_machine) (defScope s_law_machine) .none kV16 dc16 pm16 an16 cd16 ct16, a_law_state := f_law_state, d_law_state := PySem.W.fnOf "_law_state" "_law_state" (defArgs s_law_state) (defBody s_law_state) (defScope s_law_state) .none kV17 dc17 pm17 an17 cd17 ct17, a_law_output := f_law_output, d_law_output := PySem.W.fnOf "_law_output" "_law_output" (defArgs s_law_output) (defBody s_law_output) (defScope s_law_output) .none kV18 dc18 pm18 an18 cd18 ct18, a_law_log := f_law_log, d_law_log := PySem.W.fnOf "_law_log" "_law_log" (defArgs s_law_log) (defBody s_law_log) (defScope s_law_log) .none kV19 dc19 pm19 an19 cd19 ct19, a_law_beginnings := f_law_beginnings, d_law_beginnings := PySem.W.fnOf "_law_beginnings" "_law_beginnings" (defArgs s_law_beginnings) (defBody s_law_beginnings) (defScope s_law_beginnings) .none kV20 dc20 pm20 an20 cd20 ct20, a_law_tails := f_law_tails, d_law_tails := PySem.W.fnOf "_law_tails" "_law_tails" (defArgs s_law_tails) (defBody s_law_tails) (defScope s_law_tails) .none kV21 dc21 pm21 an21 cd21 ct21, a_law_clash := f_law_clash, d_law_clash := PySem.W.fnOf "_law_clash" "_law_clash" (defArgs s_law_clash) (defBody s_law_clash) (defScope s_law_clash) .none kV22 dc22 pm22 an22 cd22 ct22, a_law_states := f_law_states, d_law_states := PySem.W.fnOf "_law_states" "_law_states" (defArgs s_law_states) (defBody s_law_states) (defScope s_law_states) .none kV23 dc23 pm23 an23 cd23 ct23, a_law_list_good := f_law_list_good, d_law_list_good := PySem.W.fnOf "_law_list_good" "_law_list_good" (defArgs s_law_list_good) (defBody s_law_list_good) (defScope s_law_list_good) .none kV24 dc24 pm24 an24 cd24 ct24, a_law := fa, d_law := PySem.W.fnOf "law" "law" (defArgs s_law) (defBody s_law) (defScope s_law) .none kV25 dc25 pm25 an25 cd25 ct25 }, tc0, tp0, tc11, tp11, tc13, tp13, rfl, ?_, fun s v => .of_eq rfl, rfl, tab_are_below, tn_are_below, rfl, tab_clash_list, tn_clash_list, rfl, tab_contradict, tn_contradict, nt_are_below_clash_list, nt_are_below_contradict, nt_clash_list_contradict⟩
  exact {
    g_MaieuticError := PySem.W.mg_of X G r_MaieuticError,
    x_MaieuticError := rx_MaieuticError,
    k_MaieuticError := rk_MaieuticError,
    sb_MaieuticError := rb_MaieuticError,
    ty_MaieuticError := rt_MaieuticError,
    E_MaieuticError := ⟨rga_MaieuticError, rgg_MaieuticError, rb_MaieuticError, rh_MaieuticError, rc_MaieuticError, ra1, ra2, rm_MaieuticError⟩,
    g_NotAllowed := PySem.W.mg_of X G r_NotAllowed,
    x_NotAllowed := rx_NotAllowed,
    k_NotAllowed := rk_NotAllowed,
    sb_NotAllowed := rb_NotAllowed,
    ty_NotAllowed := rt_NotAllowed,
    E_NotAllowed := ⟨rga_NotAllowed, rgg_NotAllowed, rb_NotAllowed, rh_NotAllowed, rc_NotAllowed, ra1, ra2, rm_NotAllowed⟩,
    g_Missing := PySem.W.mg_of X G r_Missing,
    x_Missing := rx_Missing,
    k_Missing := rk_Missing,
    sb_Missing := rb_Missing,
    ty_Missing := rt_Missing,
    E_Missing := ⟨rga_Missing, rgg_Missing, rb_Missing, rh_Missing, rc_Missing, ra1, ra2, rm_Missing⟩,
    g_Broken := PySem.W.mg_of X G r_Broken,
    x_Broken := rx_Broken,
    k_Broken := rk_Broken,
    sb_Broken := rb_Broken,
    ty_Broken := rt_Broken,
    E_Broken := ⟨rga_Broken, rgg_Broken, rb_Broken, rh_Broken, rc_Broken, ra1, ra2, rm_Broken⟩,
    su_MaieuticError_MaieuticError := rsu_MaieuticError_MaieuticError,
    su_MaieuticError_NotAllowed := rsu_MaieuticError_NotAllowed,
    su_MaieuticError_Missing := rsu_MaieuticError_Missing,
    su_MaieuticError_Broken := rsu_MaieuticError_Broken,
    su_NotAllowed_MaieuticError := rsu_NotAllowed_MaieuticError,
    su_NotAllowed_NotAllowed := rsu_NotAllowed_NotAllowed,
    su_NotAllowed_Missing := rsu_NotAllowed_Missing,
    su_NotAllowed_Broken := rsu_NotAllowed_Broken,
    su_Missing_MaieuticError := rsu_Missing_MaieuticError,
    su_Missing_NotAllowed := rsu_Missing_NotAllowed,
    su_Missing_Missing := rsu_Missing_Missing,
    su_Missing_Broken := rsu_Missing_Broken,
    su_Broken_MaieuticError := rsu_Broken_MaieuticError,
    su_Broken_NotAllowed := rsu_Broken_NotAllowed,
    su_Broken_Missing := rsu_Broken_Missing,
    su_Broken_Broken := rsu_Broken_Broken,
    F_are_below := fun_mk (st := s_are_below) l_are_below cc_are_below kk_are_below,
    b_are_below := (fun_mk (st := s_are_below) l_are_below cc_are_below kk_are_below).binds (ps := ["numbers", "limit"]) fun _ _ _ _ _ _ us hl => match us, hl with | [_, _], _ => rfl,
    g_are_below := PySem.W.mg_of X G q_are_below,
    F_is_word := fun_mk (st := s_is_word) l_is_word cc_is_word kk_is_word,
    b_is_word := (fun_mk (st := s_is_word) l_is_word cc_is_word kk_is_word).binds (ps := ["word", "letters", "longest"]) fun _ _ _ _ _ _ us hl => match us, hl with | [_, _, _], _ => rfl,
    g_is_word := PySem.W.mg_of X G q_is_word,
    F_word_order := fun_mk (st := s_word_order) l_word_order cc_word_order kk_word_order,
    b_word_order := (fun_mk (st := s_word_order) l_word_order cc_word_order kk_word_order).binds (ps := ["word"]) fun _ _ _ _ _ _ us hl => match us, hl with | [_], _ => rfl,
    g_word_order := PySem.W.mg_of X G q_word_order,
    F_check_log := fun_mk (st := s_check_log) l_check_log cc_check_log kk_check_log,
    b_check_log := (fun_mk (st := s_check_log) l_check_log cc_check_log kk_check_log).binds (ps := ["letters", "outs", "log"]) fun _ _ _ _ _ _ us hl => match us, hl with | [_, _, _], _ => rfl,
    g_check_log := PySem.W.mg_of X G q_check_log,
    F_smallest := fun_mk (st := s_smallest) l_smallest cc_smallest kk_smallest,
    b_smallest := (fun_mk (st := s_smallest) l_smallest cc_smallest kk_smallest).binds (ps := ["letters", "outs", "log"]) fun _ _ _ _ _ _ us hl => match us, hl with | [_, _, _], _ => rfl,
    g_smallest := PySem.W.mg_of X G q_smallest,
    F_smallest_parts := fun_mk (st := s_smallest_parts) l_smallest_parts cc_smallest_parts kk_smallest_parts,
    b_smallest_parts := (fun_mk (st := s_smallest_parts) l_smallest_parts cc_smallest_parts kk_smallest_parts).binds (ps := ["letters", "log"]) fun _ _ _ _ _ _ us hl => match us, hl with | [_, _], _ => rfl,
    g_smallest_parts := PySem.W.mg_of X G q_smallest_parts,
    F_longer_parts := fun_mk (st := s_longer_parts) l_longer_parts cc_longer_parts kk_longer_parts,
    b_longer_parts := (fun_mk (st := s_longer_parts) l_longer_parts cc_longer_parts kk_longer_parts).binds (ps := ["letters", "states", "part"]) fun _ _ _ _ _ _ us hl => match us, hl with | [_, _, _], _ => rfl,
    g_longer_parts := PySem.W.mg_of X G q_longer_parts,
    F_move_on := fun_mk (st := s_move_on) l_move_on cc_move_on kk_move_on,
    b_move_on := (fun_mk (st := s_move_on) l_move_on cc_move_on kk_move_on).binds (ps := ["letters", "moves", "claims"]) fun _ _ _ _ _ _ us hl => match us, hl with | [_, _, _], _ => rfl,
    g_move_on := PySem.W.mg_of X G q_move_on,
    F_state_rows := fun_mk (st := s_state_rows) l_state_rows cc_state_rows kk_state_rows,
    b_state_rows := (fun_mk (st := s_state_rows) l_state_rows cc_state_rows kk_state_rows).binds (ps := ["letters", "part"]) fun _ _ _ _ _ _ us hl => match us, hl with | [_, _], _ => rfl,
    g_state_rows := PySem.W.mg_of X G q_state_rows,
    F_beginnings := fun_mk (st := s_beginnings) l_beginnings cc_beginnings kk_beginnings,
    b_beginnings := (fun_mk (st := s_beginnings) l_beginnings cc_beginnings kk_beginnings).binds (ps := ["log"]) fun _ _ _ _ _ _ us hl => match us, hl with | [_], _ => rfl,
    g_beginnings := PySem.W.mg_of X G q_beginnings,
    F_do_clash := fun_mk (st := s_do_clash) l_do_clash cc_do_clash kk_do_clash,
    b_do_clash := (fun_mk (st := s_do_clash) l_do_clash cc_do_clash kk_do_clash).binds (ps := ["log", "first", "second"]) fun _ _ _ _ _ _ us hl => match us, hl with | [_, _, _], _ => rfl,
    g_do_clash := PySem.W.mg_of X G q_do_clash,
    F_clash_list := fun_mk (st := s_clash_list) l_clash_list cc_clash_list kk_clash_list,
    b_clash_list := (fun_mk (st := s_clash_list) l_clash_list cc_clash_list kk_clash_list).binds (ps := ["letters", "outs", "log"]) fun _ _ _ _ _ _ us hl => match us, hl with | [_, _, _], _ => rfl,
    g_clash_list := PySem.W.mg_of X G q_clash_list,
    F_endings := fun_mk (st := s_endings) l_endings cc_endings kk_endings,
    b_endings := (fun_mk (st := s_endings) l_endings cc_endings kk_endings).binds (ps := ["log"]) fun _ _ _ _ _ _ us hl => match us, hl with | [_], _ => rfl,
    g_endings := PySem.W.mg_of X G q_endings,
    F_contradict := fun_mk (st := s_contradict) l_contradict cc_contradict kk_contradict,
    b_contradict := (fun_mk (st := s_contradict) l_contradict cc_contradict kk_contradict).binds (ps := ["endings", "others"]) fun _ _ _ _ _ _ us hl => match us, hl with | [_, _], _ => rfl,
    g_contradict := PySem.W.mg_of X G q_contradict,
    F_law_cell := fun_mk (st := s_law_cell) l_law_cell cc_law_cell kk_law_cell,
    b_law_cell := (fun_mk (st := s_law_cell) l_law_cell cc_law_cell kk_law_cell).binds (ps := ["script", "k"]) fun _ _ _ _ _ _ us hl => match us, hl with | [_, _], _ => rfl,
    g_law_cell := PySem.W.mg_of X G q_law_cell,
    F_law_numbers := fun_mk (st := s_law_numbers) l_law_numbers cc_law_numbers kk_law_numbers,
    b_law_numbers := (fun_mk (st := s_law_numbers) l_law_numbers cc_law_numbers kk_law_numbers).binds (ps := ["cell", "k", "many"]) fun _ _ _ _ _ _ us hl => match us, hl with | [_, _, _], _ => rfl,
    g_law_numbers := PySem.W.mg_of X G q_law_numbers,
    F_law_machine := fun_mk (st := s_law_machine) l_law_machine cc_law_machine kk_law_machine,
    b_law_machine := (fun_mk (st := s_law_machine) l_law_machine cc_law_machine kk_law_machine).binds (ps := ["numbers", "letters", "outs", "states"]) fun _ _ _ _ _ _ us hl => match us, hl with | [_, _, _, _], _ => rfl,
    g_law_machine := PySem.W.mg_of X G q_law_machine,
    F_law_state := fun_mk (st := s_law_state) l_law_state cc_law_state kk_law_state,
    b_law_state := (fun_mk (st := s_law_state) l_law_state cc_law_state kk_law_state).binds (ps := ["machine", "word"]) fun _ _ _ _ _ _ us hl => match us, hl with | [_, _], _ => rfl,
    g_law_state := PySem.W.mg_of X G q_law_state,
    F_law_output := fun_mk (st := s_law_output) l_law_output cc_law_output kk_law_output,
    b_law_output := (fun_mk (st := s_law_output) l_law_output cc_law_output kk_law_output).binds (ps := ["machine", "word"]) fun _ _ _ _ _ _ us hl => match us, hl with | [_, _], _ => rfl,
    g_law_output := PySem.W.mg_of X G q_law_output,
    F_law_log := fun_mk (st := s_law_log) l_law_log cc_law_log kk_law_log,
    b_law_log := (fun_mk (st := s_law_log) l_law_log cc_law_log kk_law_log).binds (ps := ["script", "letters", "outs", "hidden"]) fun _ _ _ _ _ _ us hl => match us, hl with | [_, _, _, _], _ => rfl,
    g_law_log := PySem.W.mg_of X G q_law_log,
    F_law_beginnings := fun_mk (st := s_law_beginnings) l_law_beginnings cc_law_beginnings kk_law_beginnings,
    b_law_beginnings := (fun_mk (st := s_law_beginnings) l_law_beginnings cc_law_beginnings kk_law_beginnings).binds (ps := ["log"]) fun _ _ _ _ _ _ us hl => match us, hl with | [_], _ => rfl,
    g_law_beginnings := PySem.W.mg_of X G q_law_beginnings,
    F_law_tails := fun_mk (st := s_law_tails) l_law_tails cc_law_tails kk_law_tails,
    b_law_tails := (fun_mk (st := s_law_tails) l_law_tails cc_law_tails kk_law_tails).binds (ps := ["log", "start"]) fun _ _ _ _ _ _ us hl => match us, hl with | [_, _], _ => rfl,
    g_law_tails := PySem.W.mg_of X G q_law_tails,
    F_law_clash := fun_mk (st := s_law_clash) l_law_clash cc_law_clash kk_law_clash,
    b_law_clash := (fun_mk (st := s_law_clash) l_law_clash cc_law_clash kk_law_clash).binds (ps := ["first", "second"]) fun _ _ _ _ _ _ us hl => match us, hl with | [_, _], _ => rfl,
    g_law_clash := PySem.W.mg_of X G q_law_clash,
    F_law_states := fun_mk (st := s_law_states) l_law_states cc_law_states kk_law_states,
    b_law_states := (fun_mk (st := s_law_states) l_law_states cc_law_states kk_law_states).binds (ps := ["letters", "outs", "log"]) fun _ _ _ _ _ _ us hl => match us, hl with | [_, _, _], _ => rfl,
    g_law_states := PySem.W.mg_of X G q_law_states,
    F_law_list_good := fun_mk (st := s_law_list_good) l_law_list_good cc_law_list_good kk_law_list_good,
    b_law_list_good := (fun_mk (st := s_law_list_good) l_law_list_good cc_law_list_good kk_law_list_good).binds (ps := ["words", "starts", "tails"]) fun _ _ _ _ _ _ us hl => match us, hl with | [_, _, _], _ => rfl,
    g_law_list_good := PySem.W.mg_of X G q_law_list_good,
    F_law := fun_mk (st := s_law) l_law cc_law kk_law,
    b_law := (fun_mk (st := s_law) l_law cc_law kk_law).binds (ps := ["script"]) fun _ _ _ _ _ _ us hl => match us, hl with | [_], _ => rfl,
    g_law := PySem.W.mg_of X G q_law,
    c_MAX_OUTS := ⟨_, PySem.W.mg_of X G vv_MAX_OUTS, vr_MAX_OUTS⟩,
    c_MAX_LOG_LETTERS := ⟨_, PySem.W.mg_of X G vv_MAX_LOG_LETTERS, vr_MAX_LOG_LETTERS⟩,
    c_MAX_LOG := ⟨_, PySem.W.mg_of X G vv_MAX_LOG, vr_MAX_LOG⟩,
    c_MAX_SEEN := ⟨_, PySem.W.mg_of X G vv_MAX_SEEN, vr_MAX_SEEN⟩,
    c_MAX_SMALL := ⟨_, PySem.W.mg_of X G vv_MAX_SMALL, vr_MAX_SMALL⟩,
    n_all := PySem.W.mg_none_of X G z_all,
    n_len := PySem.W.mg_none_of X G z_len,
    n_tuple := PySem.W.mg_none_of X G z_tuple,
    n_min := PySem.W.mg_none_of X G z_min,
    n_range := PySem.W.mg_none_of X G z_range,
    n_max := PySem.W.mg_none_of X G z_max,
    n_sorted := PySem.W.mg_none_of X G z_sorted,
    n_any := PySem.W.mg_none_of X G z_any,
    n_int := PySem.W.mg_none_of X G z_int,
    n_list := PySem.W.mg_none_of X G z_list }
theorem walk {l : PySem.W.OpenLaw} {q : Program} {loose : List Str} {XP : (Str → Option Value) → Heap → Prop} {YP : World → Heap → Prop} {d : DefRec} {K : Params → PySem.W.Frag} (hn : l.most = some 63) (hdf : d.params.defaults = [])
    (hrec : ((((recsOf q).find? fun e => e.name == ("are_below" : Str)).isSome && ((recsOf q).find? fun e => e.name == ("clash_list" : Str)).isSome) && ((recsOf q).find? fun e => e.name == ("_contradict" : Str)).isSome) = true) (hY : ∀ (w : World) (h : Heap), YP w h → (K w.params).In h)
    (F : ∀ (w : World) (mg : Str → Option Value) (fa : Addr) (h : Heap), (K w.params).In h → h.Ns mainGlobals mg → mg d.name = some (.ref fa) →
      ∃ (A : Ads) (c1 P1 c2 P2 c3 P3 : Addr), A.a_law = fa ∧ Txt (K w.params) mg A ∧ (∀ (s : Shared) (v : Value), BindsTo s A.d_law ⟨[v], []⟩ [("script", v)]) ∧ A.d_are_below.code = .ref c1 ∧ PySem.W.tabIn (K w.params) "are_below" = some (c1, P1) ∧ (K w.params).lookup P1 = none ∧
        A.d_clash_list.code = .ref c2 ∧ PySem.W.tabIn (K w.params) "clash_list" = some (c2, P2) ∧ (K w.params).lookup P2 = none ∧ A.d_contradict.code = .ref c3 ∧ PySem.W.tabIn (K w.params) "_contradict" = some (c3, P3) ∧ (K w.params).lookup P3 = none ∧ P1 ≠ P2 ∧ P1 ≠ P3 ∧ P2 ≠ P3) :
    PySem.W.WalkO q loose XP YP l.row.toRowW d [] (fun f vs => PySem.call f vs) := by
  refine Att.attach_callB hn hdf fun w s₀ s₁ mg mb fa o pm cd doc a vs ns G Y ho hd hcd hmg hobj hints hlen hbits hg => ?_
  have KX := hY w _ Y
  obtain ⟨A, c1, P1, c2, P2, c3, P3, rfl, T, hb, hc1, ht1, hn1, hc2, ht2, hn2, hc3, ht3, hn3, h12, h13, h23⟩ := F w mg fa _ KX G.T.g hmg
  rw [Bool.and_eq_true, Bool.and_eq_true] at hrec
  obtain ⟨e1, he1⟩ := Option.isSome_iff_exists.mp hrec.1.1
  obtain ⟨e2, he2⟩ := Option.isSome_iff_exists.mp hrec.1.2
  obtain ⟨e3, he3⟩ := Option.isSome_iff_exists.mp hrec.2
  obtain ⟨C1, hP1⟩ := PySem.W.tab_of G.T KX he1 ht1
  obtain ⟨C2, hP2⟩ := PySem.W.tab_of G.T KX he2 ht2
  obtain ⟨C3, hP3⟩ := PySem.W.tab_of G.T KX he3 ht3
  have m1 : (c1, P1) ∈ [(c1, P1), (c2, P2), (c3, P3)] := List.mem_cons_self
  have m2 : (c2, P2) ∈ [(c1, P1), (c2, P2), (c3, P3)] := List.mem_cons_of_mem _ List.mem_cons_self
  have m3 : (c3, P3) ∈ [(c1, P1), (c2, P2), (c3, P3)] := List.mem_cons_of_mem _ (List.mem_cons_of_mem _ List.mem_cons_self)
  have nil : TriplesOk (#[] : Array Value).toList := by first | exact .nil | trivial | exact PySem.W.triplesOk_nil | exact fun _ h => absurd h (by simp)
  have all : ∀ {R : Addr × Addr → Prop}, R (c1, P1) → R (c2, P2) → R (c3, P3) → ∀ p ∈ [(c1, P1), (c2, P2), (c3, P3)], R p := fun h1 h2 h3 p hp => by
    rcases List.mem_cons.mp hp with z | z
    · cases z
      exact h1
    · rcases List.mem_cons.mp z with z | z
      · cases z
        exact h2
      · cases List.mem_singleton.mp z
        exact h3
  refine LamX.law_callTs (CX := CX0) (k := 7) (cs := [(c1, P1), (c2, P2), (c3, P3)]) (fd := A.d_law) (x := "script") (sp := spLaw (K w.params) [P1, P3, P2]) KX G.T.g G.T.b G.T.builtins G.T.nolimit hg (all hP1 hP2 hP3) (all hn1 hn2 hn3) (all C1 C2 C3) G.T.bmain hobj hints (Nat.le_trans hlen (by decide)) ⟨rfl, by decide, by decide⟩
    (fun base _ _ hT => ok_law T ⟨(hT _ m1).code, (hT _ m1).bm, (hT _ m1).gP⟩ hc1 ⟨(hT _ m3).code, (hT _ m3).bm, (hT _ m3).gP⟩ hc3 ⟨(hT _ m2).code, (hT _ m2).bm, (hT _ m2).gP⟩ hc2) hb (fun H hH hS => ⟨a, ns, rfl, hS, hlen, fun p hp => ?_, fun _ => rfl⟩) fun _ _ _ z => z
  rcases List.mem_cons.mp hp with rfl | hp
  · exact ⟨#[], hH _ m1, nil⟩
  rcases List.mem_cons.mp hp with rfl | hp
  · exact ⟨#[], hH _ m3, nil⟩
  rcases List.mem_cons.mp hp with rfl | hp
  · exact ⟨#[], hH _ m2, nil⟩
  · cases hp
end K42

set_option Elab.async false
open PySem PySem.W PyProof.Rows in
set_option maxRecDepth 100000 in
set_option maxHeartbeats 0 in
theorem PySem.Challenge.cw_maieutic_k42_beginnings_that_clash_holds : PySem.Challenge.rw_maieutic_k42_beginnings_that_clash.Holds := by
  w_on; o_law; k_head; (case hw => w_witness2)
  k_fill
  refine K42.walk (l := PySem.Challenge.rw_maieutic_k42_beginnings_that_clash) rfl rfl ?hrec (fun w h Y => PySem.W.kIn_of Y) ?F
  (case hrec => first | kernel_rfl | rfl | decide +kernel)
  case F =>
    intro w mg fa h KX G hmg
    refine' K42.all_mk KX G hmg ?r_MaieuticError ?rx_MaieuticError ?rk_MaieuticError ?rb_MaieuticError ?rt_MaieuticError ?rga_MaieuticError ?rgg_MaieuticError ?rh_MaieuticError ?rc_MaieuticError ?rm_MaieuticError ?r_NotAllowed ?rx_NotAllowed ?rk_NotAllowed ?rb_NotAllowed ?rt_NotAllowed ?rga_NotAllowed ?rgg_NotAllowed ?rh_NotAllowed ?rc_NotAllowed ?rm_NotAllowed ?r_Missing ?rx_Missing ?rk_Missing ?rb_Missing ?rt_Missing ?rga_Missing ?rgg_Missing ?rh_Missing ?rc_Missing ?rm_Missing ?r_Broken ?rx_Broken ?rk_Broken ?rb_Broken ?rt_Broken ?rga_Broken ?rgg_Broken ?rh_Broken ?rc_Broken ?rm_Broken ?ra1 ?ra2 ?rsu_MaieuticError_MaieuticError ?rsu_MaieuticError_NotAllowed ?rsu_MaieuticError_Missing ?rsu_MaieuticError_Broken ?rsu_NotAllowed_MaieuticError ?rsu_NotAllowed_NotAllowed ?rsu_NotAllowed_Missing ?rsu_NotAllowed_Broken ?rsu_Missing_MaieuticError ?rsu_Missing_NotAllowed ?rsu_Missing_Missing ?rsu_Missing_Broken ?rsu_Broken_MaieuticError ?rsu_Broken_NotAllowed ?rsu_Broken_Missing ?rsu_Broken_Broken ?q_are_below ?l_are_below ?cc_are_below ?tk_are_below ?tv_are_below ?tn_are_below ?kk_are_below ?q_is_word ?l_is_word ?cc_is_word ?kk_is_word ?q_word_order ?l_word_order ?cc_word_order ?kk_word_order ?q_check_log ?l_check_log ?cc_check_log ?kk_check_log ?q_smallest ?l_smallest ?cc_smallest ?kk_smallest ?q_smallest_parts ?l_smallest_parts ?cc_smallest_parts ?kk_smallest_parts ?q_longer_parts ?l_longer_parts ?cc_longer_parts ?kk_longer_parts ?q_move_on ?l_move_on ?cc_move_on ?kk_move_on ?q_state_rows ?l_state_rows ?cc_state_rows ?kk_state_rows ?q_beginnings ?l_beginnings ?cc_beginnings ?kk_beginnings ?q_do_clash ?l_do_clash ?cc_do_clash ?kk_do_clash ?q_clash_list ?l_clash_list ?cc_clash_list ?tk_clash_list ?tv_clash_list ?tn_clash_list ?kk_clash_list ?q_endings ?l_endings ?cc_endings ?kk_endings ?q_contradict ?l_contradict ?cc_contradict ?tk_contradict ?tv_contradict ?tn_contradict ?kk_contradict ?q_law_cell ?l_law_cell ?cc_law_cell ?kk_law_cell ?q_law_numbers ?l_law_numbers ?cc_law_numbers ?kk_law_numbers ?q_law_machine ?l_law_machine ?cc_law_machine ?kk_law_machine ?q_law_state ?l_law_state ?cc_law_state ?kk_law_state ?q_law_output ?l_law_output ?cc_law_output ?kk_law_output ?q_law_log ?l_law_log ?cc_law_log ?kk_law_log ?q_law_beginnings ?l_law_beginnings ?cc_law_beginnings ?kk_law_beginnings ?q_law_tails ?l_law_tails ?cc_law_tails ?kk_law_tails ?q_law_clash ?l_law_clash ?cc_law_clash ?kk_law_clash ?q_law_states ?l_law_states ?cc_law_states ?kk_law_states ?q_law_list_good ?l_law_list_good ?cc_law_list_good ?kk_law_list_good ?q_law ?l_law ?cc_law ?kk_law ?vv_MAX_OUTS ?vr_MAX_OUTS ?vv_MAX_LOG_LETTERS ?vr_MAX_LOG_LETTERS ?vv_MAX_LOG ?vr_MAX_LOG ?vv_MAX_SEEN ?vr_MAX_SEEN ?vv_MAX_SMALL ?vr_MAX_SMALL ?z_all ?z_len ?z_tuple ?z_min ?z_range ?z_max ?z_sorted ?z_any ?z_int ?z_list ?nt_are_below_clash_list ?nt_are_below_contradict ?nt_clash_list_contradict
    (case r_MaieuticError => k_is)
    (case rx_MaieuticError => first | k_exc | k_is)
    (case rk_MaieuticError => k_is)
    (case rb_MaieuticError => k_is)
    (case rt_MaieuticError => k_is)
    (case rga_MaieuticError => k_is)
    (case rgg_MaieuticError => k_is)
    (case rh_MaieuticError => k_is)
    (case rc_MaieuticError => k_is)
    (case rm_MaieuticError => k_is)
    (case r_NotAllowed => k_is)
    (case rx_NotAllowed => first | k_exc | k_is)
    (case rk_NotAllowed => k_is)
    (case rb_NotAllowed => k_is)
    (case rt_NotAllowed => k_is)
    (case rga_NotAllowed => k_is)
    (case rgg_NotAllowed => k_is)
    (case rh_NotAllowed => k_is)
    (case rc_NotAllowed => k_is)
    (case rm_NotAllowed => k_is)
    (case r_Missing => k_is)
    (case rx_Missing => first | k_exc | k_is)
    (case rk_Missing => k_is)
    (case rb_Missing => k_is)
    (case rt_Missing => k_is)
    (case rga_Missing => k_is)
    (case rgg_Missing => k_is)
    (case rh_Missing => k_is)
    (case rc_Missing => k_is)
    (case rm_Missing => k_is)
    (case r_Broken => k_is)
    (case rx_Broken => first | k_exc | k_is)
    (case rk_Broken => k_is)
    (case rb_Broken => k_is)
    (case rt_Broken => k_is)
    (case rga_Broken => k_is)
    (case rgg_Broken => k_is)
    (case rh_Broken => k_is)
    (case rc_Broken => k_is)
    (case rm_Broken => k_is)
    (case ra1 => k_is)
    (case ra2 => k_is)
    (case rsu_MaieuticError_MaieuticError => k_is)
    (case rsu_MaieuticError_NotAllowed => k_is)
    (case rsu_MaieuticError_Missing => k_is)
    (case rsu_MaieuticError_Broken => k_is)
    (case rsu_NotAllowed_MaieuticError => k_is)
    (case rsu_NotAllowed_NotAllowed => k_is)
    (case rsu_NotAllowed_Missing => k_is)
    (case rsu_NotAllowed_Broken => k_is)
    (case rsu_Missing_MaieuticError => k_is)
    (case rsu_Missing_NotAllowed => k_is)
    (case rsu_Missing_Missing => k_is)
    (case rsu_Missing_Broken => k_is)
    (case rsu_Broken_MaieuticError => k_is)
    (case rsu_Broken_NotAllowed => k_is)
    (case rsu_Broken_Missing => k_is)
    (case rsu_Broken_Broken => k_is)
    (case q_are_below => k_is)
    (case l_are_below => k_is)
    (case cc_are_below => k_is)
    (case tk_are_below => k_is)
    (case tv_are_below => rfl)
    (case tn_are_below => kernel_rfl)
    (case kk_are_below => k_is)
    (case q_is_word => k_is)
    (case l_is_word => k_is)
    (case cc_is_word => k_is)
    (case kk_is_word => k_is)
    (case q_word_order => k_is)
    (case l_word_order => k_is)
    (case cc_word_order => k_is)
    (case kk_word_order => k_is)
    (case q_check_log => k_is)
    (case l_check_log => k_is)
    (case cc_check_log => k_is)
    (case kk_check_log => k_is)
    (case q_smallest => k_is)
    (case l_smallest => k_is)
    (case cc_smallest => k_is)
    (case kk_smallest => k_is)
    (case q_smallest_parts => k_is)
    (case l_smallest_parts => k_is)
    (case cc_smallest_parts => k_is)
    (case kk_smallest_parts => k_is)
    (case q_longer_parts => k_is)
    (case l_longer_parts => k_is)
    (case cc_longer_parts => k_is)
    (case kk_longer_parts => k_is)
    (case q_move_on => k_is)
    (case l_move_on => k_is)
    (case cc_move_on => k_is)
    (case kk_move_on => k_is)
    (case q_state_rows => k_is)
    (case l_state_rows => k_is)
    (case cc_state_rows => k_is)
    (case kk_state_rows => k_is)
    (case q_beginnings => k_is)
    (case l_beginnings => k_is)
    (case cc_beginnings => k_is)
    (case kk_beginnings => k_is)
    (case q_do_clash => k_is)
    (case l_do_clash => k_is)
    (case cc_do_clash => k_is)
    (case kk_do_clash => k_is)
    (case q_clash_list => k_is)
    (case l_clash_list => k_is)
    (case cc_clash_list => k_is)
    (case tk_clash_list => k_is)
    (case tv_clash_list => rfl)
    (case tn_clash_list => kernel_rfl)
    (case kk_clash_list => k_is)
    (case q_endings => k_is)
    (case l_endings => k_is)
    (case cc_endings => k_is)
    (case kk_endings => k_is)
    (case q_contradict => k_is)
    (case l_contradict => k_is)
    (case cc_contradict => k_is)
    (case tk_contradict => k_is)
    (case tv_contradict => rfl)
    (case tn_contradict => kernel_rfl)
    (case kk_contradict => k_is)
    (case q_law_cell => k_is)
    (case l_law_cell => k_is)
    (case cc_law_cell => k_is)
    (case kk_law_cell => k_is)
    (case q_law_numbers => k_is)
    (case l_law_numbers => k_is)
    (case cc_law_numbers => k_is)
    (case kk_law_numbers => k_is)
    (case q_law_machine => k_is)
    (case l_law_machine => k_is)
    (case cc_law_machine => k_is)
    (case kk_law_machine => k_is)
    (case q_law_state => k_is)
    (case l_law_state => k_is)
    (case cc_law_state => k_is)
    (case kk_law_state => k_is)
    (case q_law_output => k_is)
    (case l_law_output => k_is)
    (case cc_law_output => k_is)
    (case kk_law_output => k_is)
    (case q_law_log => k_is)
    (case l_law_log => k_is)
    (case cc_law_log => k_is)
    (case kk_law_log => k_is)
    (case q_law_beginnings => k_is)
    (case l_law_beginnings => k_is)
    (case cc_law_beginnings => k_is)
    (case kk_law_beginnings => k_is)
    (case q_law_tails => k_is)
    (case l_law_tails => k_is)
    (case cc_law_tails => k_is)
    (case kk_law_tails => k_is)
    (case q_law_clash => k_is)
    (case l_law_clash => k_is)
    (case cc_law_clash => k_is)
    (case kk_law_clash => k_is)
    (case q_law_states => k_is)
    (case l_law_states => k_is)
    (case cc_law_states => k_is)
    (case kk_law_states => k_is)
    (case q_law_list_good => k_is)
    (case l_law_list_good => k_is)
    (case cc_law_list_good => k_is)
    (case kk_law_list_good => k_is)
    (case q_law => k_is)
    (case l_law => k_is)
    (case cc_law => k_is)
    (case kk_law => k_is)
    (case vv_MAX_OUTS => k_is)
    (case vr_MAX_OUTS => first | rfl | exact ⟨_, rfl⟩)
    (case vv_MAX_LOG_LETTERS => k_is)
    (case vr_MAX_LOG_LETTERS => first | rfl | exact ⟨_, rfl⟩)
    (case vv_MAX_LOG => k_is)
    (case vr_MAX_LOG => first | rfl | exact ⟨_, rfl⟩)
    (case vv_MAX_SEEN => k_is)
    (case vr_MAX_SEEN => first | rfl | exact ⟨_, rfl⟩)
    (case vv_MAX_SMALL => k_is)
    (case vr_MAX_SMALL => first | rfl | exact ⟨_, rfl⟩)
    (case z_all => k_is)
    (case z_len => k_is)
    (case z_tuple => k_is)
    (case z_min => k_is)
    (case z_range => k_is)
    (case z_max => k_is)
    (case z_sorted => k_is)
    (case z_any => k_is)
    (case z_int => k_is)
    (case z_list => k_is)
    (case nt_are_below_clash_list => first | decide | decide +kernel)
    (case nt_are_below_contradict => first | decide | decide +kernel)
    (case nt_clash_list_contradict => first | decide | decide +kernel)
