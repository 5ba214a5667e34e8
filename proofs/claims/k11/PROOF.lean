import PyProof.Rows.All
import Wide.All
import OpenK.AllK
import Wide.FinOn
import KE.KIsAll
import KE.KTryMore
import HandS.ForMost
import HandS.ForExc
import HandS.ExcIs
import HandS.IsInst
import HandS.Small
import HandS.Codes
import HandS.TupAny
import HandS.AnyAll
import HandS.HotCalls
import KE.LtData
import HandS.FStr
import HandS.EndTab
import KE.KDictDisplayH
import HandS.Comp
import HandS.DictComp
import HandS.DictTup
import HandS.TupLen
import HandS.Iter
import KE.GoesMore
import KE.KeyNested
import HandS.Walk
import HandS.SetKeys
import HandS.Deep
import KE.KDictWalk
import HandS.Conv
import HandS.GenList
import PyProof.WalksS
import KE.DataAny
import PyProof.GenCompD
import HandS.Lambda
import HandS.EndOwn
import PySem.Challenge.RW_maieutic_k11_tables
set_option Elab.async false
set_option linter.all false
set_option maxRecDepth 100000
set_option maxHeartbeats 4000000
namespace Mz
open PySem PySem.Spec PyProof.Rows L2
/-! ### calls whose errors are wished for at the slots as they stand -/
section
variable {X : Cx} {CX : CXT} {k : Nat} {f C : Addr} {fd : FuncData} {ps : List Str} {sp : Sp} {E : L2.St → XK} {x m : Str} {p pos apos : Pos} {e o : Expr} {es : List Expr} {ta : TE} {t : TA}
def tMethS (C : Addr) (m : Str) (sp : Sp) (E : L2.St → XK) (ta : TE) (t : TA) : TE := fun σ H Q => ta σ H fun x H1 => ∃ a dx fs, x = .ref a ∧ H1 a = some (.ins C dx fs) ∧ fs.lookup m = none ∧ t σ H1 fun vs H2 => sp (x :: vs) H2 Q (E σ)
theorem pe_methS {pl : Sem Bool} (he : PE X o ta) (c : Cls X.K C) (hm : Meth X.K C m f)
    (F : FnOk X.prog X.w X.K X.mg X.base CX k f fd ps sp) (hr : Room k X.A) (hb : Binds X.K fd ps []) (hx : ∀ σ, PassesAt CX X σ (E σ)) (ha : PA X (e :: es) t)
    (hst : starEach (e :: es) X.env = (false, eval e X.env) :: starEach es X.env := by rfl) (hpl : (backTo pos (starEach es X.env)).any (·.1) = false := by rfl)
    (ht : eval (.Call (.Attribute o m apos) (e :: es) [] pos) X.env = (do
      let ov ← eval o X.env
      standAt apos.atName
      let (f, first) ← holding [ov] (getMethod ov m pl)
      callWith pos f first (backTo pos (starEach (e :: es) X.env)) (backToKw pos (keywordEach [] X.env))) := by rfl) :
    PE X (.Call (.Attribute o m apos) (e :: es) [] pos) (tMethS C m sp E ta t) := by
  refine ⟨fun pins s σ H Q I h => ?_⟩
  refine PySem.W.methodCall_KW (pl := pl) (thn (he.run pins s σ H _ I h) fun u s1 ⟨x, H1, I1, rx, a, dx, fs, ex, ea, l, q⟩ => ?_) ht
  subst ex
  obtain rfl : u = Value.ref a := rx
  refine getmeth_ok I1 ea c hm l ?_
  refine PySem.W.callWith_K (first := [.ref a]) (h₀ := X.base) I.ok.mod.kin hm.kp (thn (ha.run pos pins s1 σ H1 _ I1 q) fun us s2 ⟨vs, H2, I2, r, q2⟩ => ⟨I2.kIn, ?_⟩) hst hpl
  exact run_fnS (us := .ref a :: us) (vs := .ref a :: vs) F hr hb (hx σ) I2 (.cons rfl r) q2
theorem pe_methS0 {pl : Sem Bool} (he : PE X o ta) (c : Cls X.K C) (hm : Meth X.K C m f)
    (F : FnOk X.prog X.w X.K X.mg X.base CX k f fd ps sp) (hr : Room k X.A) (hb : Binds X.K fd ps []) (hx : ∀ σ, PassesAt CX X σ (E σ))
    (ht : eval (.Call (.Attribute o m apos) [] [] pos) X.env = (do
      let ov ← eval o X.env
      standAt apos.atName
      let (f, first) ← holding [ov] (getMethod ov m pl)
      callWith pos f first (backTo pos (starEach [] X.env)) (backToKw pos (keywordEach [] X.env))) := by rfl) :
    PE X (.Call (.Attribute o m apos) [] [] pos) (tMethS C m sp E ta tNil) := by
  refine ⟨fun pins s σ H Q I h => ?_⟩
  refine PySem.W.methodCall_KW (pl := pl) (thn (he.run pins s σ H _ I h) fun u s1 ⟨x, H1, I1, rx, a, dx, fs, ex, ea, l, q⟩ => ?_) ht
  subst ex
  obtain rfl : u = Value.ref a := rx
  refine getmeth_ok I1 ea c hm l ?_
  exact PySem.W.callWith_K0 (first := [.ref a]) I1.kIn hm.kp
    (run_fnS (us := [.ref a]) (vs := [.ref a]) F hr hb (hx σ) I1 (.cons rfl .nil) q)
def tMakeS (C : Addr) (sp : Sp) (E : L2.St → XK) (t : TA) : TE := fun σ H Q =>
  t σ H fun vs H1 => ∀ x dx, H1 x = none → H1 dx = none → dx ≠ x → sp (.ref x :: vs) (upd (upd H1 dx (.own x)) x (.ins C dx [])) (fun v H2 => v = .non ∧ Q (.ref x) H2) (E σ)
theorem run_makeS {pins : List (Addr × Obj)} {σ : L2.St} {H : Hp} {s : Shared} {Q : VK} {us : List Value} {vs : List V} (M : Mk X.K C f)
    (F : FnOk X.prog X.w X.K X.mg X.base CX k f fd ps sp) (hr : Room (k + 1) X.A) (hb : Binds X.K fd ps [])
    (hx : PassesAt CX X σ (E σ)) (I : Inv X pins σ H s) (r : Vals vs us)
    (h : ∀ x dx, H x = none → H dx = none → dx ≠ x → sp (.ref x :: vs) (upd (upd H dx (.own x)) x (.ins C dx [])) (fun v H2 => v = .non ∧ Q (.ref x) H2) (E σ)) :
    wpAny (model X.prog X.w) X.A (call (.ref C) us) (EP X pins σ Q) X.xe s := by
  obtain ⟨dx, hdx⟩ : ∃ n, n = s.heap.objs.size := ⟨_, rfl⟩
  have w := h (s.heap.objs.size + 1) s.heap.objs.size (I.hok.fresh (Nat.le_succ _)) (I.hok.fresh (Nat.le_refl _)) (Nat.ne_of_lt (Nat.lt_succ_self _))
  have J := Inv.made (C := C) I
  have rr : Vals (V.ref (s.heap.objs.size + 1) :: vs) (Value.ref (s.heap.objs.size + 1) :: us) := .cons rfl r
  have len : ((Value.ref (s.heap.objs.size + 1) :: us) ++ []).length = ps.length := by
    have z := rr.length
    rw [F.len _ _ _ _ w] at z
    rw [List.append_nil]
    exact z.symm
  have bb := hb _ (Value.ref (s.heap.objs.size + 1) :: us) J.kIn len
  rw [List.append_nil] at bb
  refine wpAny_call (make_map (f := f) I.kIn M.makes M.init (beq_iff_eq.mp M.fn) (codeAny_mono (F.run _ X.stack _ _ ⟨Value.ref (s.heap.objs.size + 1) :: us, []⟩
    (Value.ref (s.heap.objs.size + 1) :: us) _ _ (E σ) (hr.make C us []) (J.env0.make C us []) bb rr w) fun g s' z => ?_))
  match g, z with
  | .error e, z => exact hx pins _ _ e s' J z
  | .ok (.ret u), z =>
    obtain ⟨v, H', I3, rv, ev, q3⟩ := J.after z
    subst ev
    exact ⟨rv, ⟨V.ref (s.heap.objs.size + 1), H', I3, rfl, q3⟩⟩
  | .ok .next, z => exact z.elim
  | .ok .brk, z => exact z.elim
  | .ok .cont, z => exact z.elim
theorem pe_makeS (M : Mk X.K C f) (F : FnOk X.prog X.w X.K X.mg X.base CX k f fd ps sp) (hr : Room (k + 1) X.A) (hg : Gl X x) (hm : X.mg x = some (.ref C)) (hb : Binds X.K fd ps [])
    (hx : ∀ σ, PassesAt CX X σ (E σ)) (ha : PA X (e :: es) t) (hdb : (x == ("__debug__" : Str)) = false := by decide)
    (he : starEach (e :: es) X.env = (false, eval e X.env) :: starEach es X.env := by rfl) (hpl : (backTo pos (starEach es X.env)).any (·.1) = false := by rfl) :
    PE X (.Call (.Name x p) (e :: es) [] pos) (tMakeS C sp E t) :=
  ⟨fun pins s σ H Q I h => wpAny_Call_Name_kw (ld_glob I hg hm
    (PySem.W.callWith_K (h₀ := X.base) I.ok.mod.kin M.kp (thn (ha.run pos pins s σ H _ I h) fun us s1 ⟨vs, H1, I1, r, q⟩ => ⟨I1.kIn, run_makeS M F hr hb (hx σ) I1 r q⟩) he hpl) hdb)⟩
end
/-! ### isinstance of the error that a suite holds -/
def rIsX (K : PySem.W.Frag) (a : Addr) (cls : Value) (d : Option Addr) : List V → Hp → VK → Prop := fun xs H Q =>
  ∃ (D C : Addr) (b : Bool), cls = .ref D ∧ d = none ∧ ExcC K D ∧ xs = [.ref a, .ref C] ∧ PySem.W.kitOne K (.ref D) (.ref C) = some b ∧ Q (.bl b) H
theorem call_isX {X : Cx} {a : Addr} {cls : Value} {d : Option Addr} {oe : Obj} {pn : List (Addr × Obj)} (hz : Zc cls d oe) (hf : ∃ vs, oe.data = .fields vs) :
    CallR (X.suite a ((a, oe) :: pn)) (.builtin "isinstance") (rIsX X.K a cls d) := by
  rintro pins s σ H xs us Q I r ⟨D, C, b, rfl, rfl, ec, rfl, hk, q⟩
  exact call_isE ec hz hf pins s σ H _ us Q I r ⟨.ref C, .ref C, b, rfl, fun u z => z, hk, q⟩
def rIsXT (K : PySem.W.Frag) (a : Addr) (cls : Value) (d : Option Addr) : List V → Hp → VK → Prop := fun xs H Q =>
  ∃ (D tp : Addr) (cs : List V) (us : List Value) (b : Bool), cls = .ref D ∧ d = none ∧ ExcC K D ∧ xs = [.ref a, .ref tp] ∧ H tp = some (.tup cs) ∧ Paired ClsV cs us ∧ PySem.W.kitAny K (.ref D) us = some b ∧ Q (.bl b) H
theorem call_isXT {X : Cx} {a : Addr} {cls : Value} {d : Option Addr} {oe : Obj} {pn : List (Addr × Obj)} (hz : Zc cls d oe) (hf : ∃ vs, oe.data = .fields vs) :
    CallR (X.suite a ((a, oe) :: pn)) (.builtin "isinstance") (rIsXT X.K a cls d) := by
  rintro pins s σ H xs vs Q I r ⟨D, tp, cs, us, b, rfl, rfl, ec, rfl, hT, k, hk, q⟩
  obtain ⟨u1, u2, rfl, r1, r2⟩ := vals2 r
  cases (show u2 = Value.ref tp from r2)
  cases (show u1 = Value.ref a from r1)
  obtain ⟨hget, _⟩ := I.pin (a, oe) (List.mem_append.mpr (.inl List.mem_cons_self))
  obtain ⟨fv, hv⟩ := hf
  have J : PySem.W.InstAt s.heap a oe D none := by
    obtain ⟨oc, od, oda, osl⟩ := oe
    obtain ⟨h1, h2⟩ := hz
    dsimp only at h1 h2 hv
    subst h1 h2 hv
    exact ⟨hget, rfl, rfl, trivial⟩
  obtain ⟨_, its, rv, ob, h1, h2, n, h3⟩ := (show ObjOk X.prog X.w H s.heap tp (.tup cs) from I.hok tp _ hT)
  have e3 := ClsV.all k rv
  subst e3
  obtain ⟨oc, od, dt, sl⟩ := ob
  simp only at h2 h3
  subst h2 h3
  exact PySem.W.kia_tup (PySem.W.handS_kitx_exc ec.hg ec.hk ec.hs ec.hd ec.ha ec.hn ec.ht ec.hm) I.kIn J h1 hk (fun z => nomatch z)
    fun tk => ⟨.bl b, H, I.kept (t' := tk) fun _ _ z => z, rfl, q⟩
/-- one own error class against another -/
theorem kit_own {K : PySem.W.Frag} {D C : Addr} {b : Bool} (hD : PySem.W.subIn K (.ref D) (.ref D) = some true) (ec : ExcC K C) (ht : PySem.W.typeIn K (.ref C) = some (.type "type"))
    (h : PySem.W.subIn K (.ref D) (.ref C) = some b) : PySem.W.kitOne K (.ref D) (.ref C) = some b := by
  unfold PySem.W.kitOne
  by_cases e : D = C
  · subst e
    rw [hD] at h
    cases h
    rw [if_pos (by simp)]
  · rw [if_neg (by simpa using fun z => e (Value.ref.inj z))]
    have e1 := PySem.W.exm_ref (cls := .ref D) (C := C) ec.hs ec.hd ht h
    unfold PySem.W.exmOne at e1
    split at e1
    · exact e1
    · cases e1
theorem exm_own {K : PySem.W.Frag} {D C : Addr} {b : Bool} (ec : ExcC K C) (ht : PySem.W.typeIn K (.ref C) = some (.type "type")) (h : PySem.W.subIn K (.ref D) (.ref C) = some b) :
    PySem.W.exmOne K (.ref D) (.ref C) = some b := PySem.W.exm_ref ec.hs ec.hd ht h
end Mz

set_option Elab.async false
set_option linter.all false
set_option maxRecDepth 100000
set_option maxHeartbeats 4000000
/-! all(..) of a generator expression over a list or a tuple, by what its element gives for each item -/
namespace Mz
open PySem PySem.Spec PyProof.Rows L2 GxR
section
variable {X : Cx} {pins : List (Addr × Obj)} {σ : L2.St} {H : Hp} {s : Shared}
/-- a generator that will give the truths tr, n of them -/
def ReadyB (X : Cx) (pins : List (Addr × Obj)) (σ : L2.St) (H1 : Hp) (P : Addr) (n : Nat) (tr : Nat → Bool) (g : Addr) (s5 : Shared) : Prop :=
  ∃ (fp wr : List Addr) (G : Array GenState → Array GenState → Prop) (F : Nat → Value → Prop) (St : Nat → Shared → Prop), WalksS X.prog X.w X.A.in1 g fp wr G n F St ∧
    St 0 s5 ∧ TruthOf X.prog X.w X.A.in1 F tr ∧ ∀ s', Moved wr G s5 s' → ∃ H2, Tabbed P H1 H2 ∧ Inv X pins σ H2 s'
/-- the element at the item i, whatever time it is -/
def EltI (X : Cx) (P : Addr) (scope : Scope) (x : Str) (elt : Expr) (s1 : Shared) (Pf : Nat → Value → Prop) (tr : Nat → Bool) : Prop :=
  ∀ (cenv : Env) (A' : Around) (E' : Value → Shared → Prop) (i : Nat) (v : Value) (s₂ : Shared) (m₂ : Str → Option Value), cenv.scope = scope → cenv.cells = cloFrom X.env.cells scope.names [] →
    cenv.globals = X.env.globals → A'.handled = none → A'.units ≤ X.A.units + 8 → Pf i v → s₂.heap.Ns cenv.locals m₂ → m₂ x = some v → (∀ b u, b ≠ P → s1.heap.get? b = some u → s₂.heap.get? b = some u) →
    wpAny (model X.prog X.w) A' (eval elt cenv) (fun y s₃ => y = .bool (tr i) ∧ Keeps s₂ s₃) E' s₂
theorem gen_run {c P : Addr} {elt : Expr} {x : Str} {gpos : Pos} {scope : Scope} {k : Nat} {Q' : Value → Shared → Prop} {xv : Value} {o : Obj} {n : Nat} {Pf : Nat → Value → Prop} {St : Nat → Heap → Prop} {fp : List Addr} {tr : Nat → Bool}
    (hr : Room k X.A) (TB : TabB X.base X.mg c P) (hcode : X.env.code = .ref c) (I : Inv X pins σ H s) (hT : TabG H P)
    (hit : ∀ Q₂ : Value → Shared → Prop, Q₂ (.ref s.heap.objs.size) { s with heap := s.heap.push o } → wpAny (model X.prog X.w) X.A (pyIter xv) Q₂ X.xe s)
    (hW : ∀ A' : Around, A'.handled = none → Walks X.prog X.w A' s.heap.objs.size fp [s.heap.objs.size] n Pf St)
    (hst : ∀ h3 : Heap, (∀ b u, b ≠ P → (s.heap.push o).get? b = some u → h3.get? b = some u) → St 0 h3) (hfp : ∀ b ∈ fp, b ≤ s.heap.objs.size)
    (hel : EltI X P scope x elt s Pf tr) (hQ : ∀ g s5, ReadyB X pins σ H P n tr g s5 → Q' (.ref g) s5) :
    wpAny (model X.prog X.w) X.A (pyIter xv) (fun it s₂ => s₂.heap.NoLimit ∧ wpAny (model X.prog X.w) X.A (genexprCode X.env gpos (X.env.qual ++ "<genexpr>") scope) (fun code s₃ =>
      wpAny (model X.prog X.w) X.A (builtinsFor X.env.globals X.env.builtins) (fun bi s₄ => ∃ I fp wr n₀ P St₀ pz F, it = .ref I ∧ (∀ A' : Around, A'.handled = none → Walks X.prog X.w A' I fp wr n₀ P St₀) ∧ St₀ 0 s₄.heap ∧
        (∀ b ∈ fp, b < s₄.heap.objs.size) ∧ s₄.heap.NoLimit ∧ cStatics ∉ wr ∧ (∀ href : Heap, (∀ b o, s₄.heap.get? b = some o → href.get? b = some o) →
          QuietGenD X.prog X.w (genEnv scope (cloFrom X.env.cells scope.names []) s₄.heap.objs.size code bi X.env) x [] elt (List.range s₄.heap.objs.size) wr P pz F href (X.A.depth + 1) (X.A.units + 8)) ∧
        (∀ a h₅ tk gs, gs.bare = true → s₄.heap.objs.size < a → h₅.objs.size = a + 1 → (∀ b o, s₄.heap.get? b = some o → h₅.get? b = some o) → WalksS X.prog X.w X.A.in4 a (a :: s₄.heap.objs.size :: List.range s₄.heap.objs.size) (s₄.heap.objs.size :: wr)
            (GenOnlyQ s₄.gens.size) (passing pz n₀ 0).length (fun j y => ∃ i, (passing pz n₀ 0)[j]? = some i ∧ F i y) (GenAt X.prog X.w X.A.in4 a s₄.gens.size s₄.heap.objs.size (List.range s₄.heap.objs.size) wr pz n₀ F) →
          GenAt X.prog X.w X.A.in4 a s₄.gens.size s₄.heap.objs.size (List.range s₄.heap.objs.size) wr pz n₀ F 0 { s₄ with gens := s₄.gens.push gs, toks := tk, heap := h₅ } → Q' (.ref a) { s₄ with gens := s₄.gens.push gs, toks := tk, heap := h₅ })) X.xe s₃) X.xe s₂) X.xe s := by
  obtain ⟨ps, hP, ht⟩ := hT
  refine hit _ ?_
  have hPs := I.hok P _ hP
  have hPs : s.heap.get? P = some { cls := .none, data := .fields ps } := hPs
  have Plt := Heap.lt_size hPs
  have hP2 : (s.heap.push o).get? P = some { cls := .none, data := .fields ps } := Heap.get?_push_of_some _ hPs
  have cd := TB.code.keeps fun b u e => Heap.get?_push_of_some o (I.bk b u e)
  have lim2 := I.nolimit.push o
  have stat : cStatics ≠ P ∧ cStatics < s.heap.objs.size := by
    obtain ⟨_, hns, _⟩ := I.nolimit
    refine ⟨fun e => ?_, hns.lt⟩
    obtain ⟨o', es, ep, ho, hd, _⟩ := hns
    rw [e, hPs] at ho
    cases ho
    cases hd
  refine ⟨lim2, ?_⟩
  -- what follows once the code object is there: its table at P holds ps', grown out of ps
  have rest : ∀ (h3 : Heap) (tk : Nat) (more : Array Value), Heap.ExtBut P (s.heap.push o) h3 → (s.heap.push o).objs.size ≤ h3.objs.size → h3.get? P = some { cls := .none, data := .fields (ps ++ more) } → TriplesOk (ps ++ more).toList →
      ∀ (Qb : Addr → Shared → Prop), (∀ bi : Addr, Qb bi { s with heap := h3, toks := tk }) → wpAny (model X.prog X.w) X.A (builtinsFor X.env.globals X.env.builtins) Qb X.xe { s with heap := h3, toks := tk } := by
    intro h3 tk more hx hsz hP3 ht3 Qb hQb
    obtain ⟨bm, ob, e1, e2, e3, e4, e5, e6, e7, e8⟩ := TB.bm
    have old : ∀ b u, b ≠ P → s.heap.get? b = some u → h3.get? b = some u := fun b u hb e => hx b u hb (Heap.get?_push_of_some _ e)
    refine wpAny_builtinsFor (m := X.mg) ?_ e1 e2 (old _ _ e4 (I.bk _ _ e5)) e6 e7 e8 (hQb _)
    rw [I.ok.glob]
    exact ((I.mod.glob.keeps I.bk).push o).extBut hx TB.gP
  have core : ∀ (code : Value) (h3 : Heap) (tk : Nat) (more : Array Value) (bi : Addr), Heap.ExtBut P (s.heap.push o) h3 → (s.heap.push o).objs.size ≤ h3.objs.size → h3.get? P = some { cls := .none, data := .fields (ps ++ more) } → TriplesOk (ps ++ more).toList →
      (∀ b ∈ fp, b < h3.objs.size) ∧ h3.NoLimit ∧ cStatics ∉ [s.heap.objs.size] ∧ (∀ href : Heap, (∀ b o, h3.get? b = some o → href.get? b = some o) →
        QuietGenD X.prog X.w (genEnv scope (cloFrom X.env.cells scope.names []) h3.objs.size code bi X.env) x [] elt (List.range h3.objs.size) [s.heap.objs.size] Pf (fun _ => true) (fun i y => i < n → y = .bool (tr i)) href (X.A.depth + 1) (X.A.units + 8)) := by
    intro code h3 tk more bi hx hsz hP3 ht3
    have sz2 : (s.heap.push o).objs.size = s.heap.objs.size + 1 := Heap.size_push ..
    refine ⟨fun b hb => ?_, lim2.extBut hx stat.1, fun z => ?_, fun href hh => ⟨?_, ?_⟩⟩
    · exact Nat.lt_of_le_of_lt (hfp b hb) (show s.heap.objs.size < h3.objs.size by omega)
    · have z2 := List.mem_singleton.mp z
      exact absurd stat.2 (by rw [z2]; exact Nat.lt_irrefl _)
    · intro A' E' i v s₂ m₂ _ _ _ _ _ _ _
      simp only [List.forIn_nil]
      exact wpAny_pure ⟨rfl, keeps_refl _⟩
    · intro A' E' i v s₂ m₂ hA _ hU hPf _ hn hm hk
      refine wpAny_mono (hel _ A' E' i v s₂ m₂ rfl rfl rfl hA hU hPf hn hm fun b u hb e => ?_) (fun y s₃ q => ⟨fun _ => q.1, q.2⟩) fun _ _ q => q
      have h3b := hx b u hb (Heap.get?_push_of_some _ e)
      refine hk b (List.mem_range.mpr (Heap.lt_size h3b)) (fun z => ?_) u (hh b u h3b)
      rw [List.mem_singleton.mp z] at e
      exact absurd (Heap.lt_size e) (Nat.lt_irrefl _)
  have fin : ∀ (h3 : Heap) (tk : Nat) (more : Array Value), Heap.ExtBut P (s.heap.push o) h3 → (s.heap.push o).objs.size ≤ h3.objs.size → h3.get? P = some { cls := .none, data := .fields (ps ++ more) } → TriplesOk (ps ++ more).toList →
      ∀ (a : Addr) (h₅ : Heap) (tk5 : Nat) (gs : GenState), gs.bare = true → h3.objs.size < a → (∀ b o, h3.get? b = some o → h₅.get? b = some o) →
      WalksS X.prog X.w X.A.in4 a (a :: h3.objs.size :: List.range h3.objs.size) (h3.objs.size :: [s.heap.objs.size]) (GenOnlyQ s.gens.size) (passing (fun _ => true) n 0).length (fun j y => ∃ i, (passing (fun _ => true) n 0)[j]? = some i ∧ (i < n → y = .bool (tr i)))
        (GenAt X.prog X.w X.A.in4 a s.gens.size h3.objs.size (List.range h3.objs.size) [s.heap.objs.size] (fun _ => true) n fun i y => i < n → y = .bool (tr i)) →
      GenAt X.prog X.w X.A.in4 a s.gens.size h3.objs.size (List.range h3.objs.size) [s.heap.objs.size] (fun _ => true) n (fun i y => i < n → y = .bool (tr i)) 0 { s with gens := s.gens.push gs, toks := tk5, heap := h₅ } →
      Q' (.ref a) { s with gens := s.gens.push gs, toks := tk5, heap := h₅ } := by
    intro h3 tk more hx hsz hP3 ht3 a h₅ tk5 gs hgb hag hk5 W5 hat
    have sz2 : (s.heap.push o).objs.size = s.heap.objs.size + 1 := Heap.size_push ..
    have old : ∀ b u, b ≠ P → s.heap.get? b = some u → h3.get? b = some u := fun b u hb e => hx b u hb (Heap.get?_push_of_some _ e)
    simp only [GxR.passing_true, List.length_range] at W5
    refine hQ a _ ⟨_, _, _, _, _, W5.in4_1, hat, ?_, fun s' hm => ?_⟩
    · rintro j y sj Qj Ej ⟨i, hij, hy⟩ hQj
      obtain ⟨hj, ej⟩ := List.getElem?_eq_some_iff.mp hij
      rw [List.length_range] at hj
      rw [List.getElem_range] at ej
      subst ej
      rw [hy hj]
      exact wpAny_truthy_bool hQj
    · have far : ∀ b u, s.heap.get? b = some u → b ∉ h3.objs.size :: [s.heap.objs.size] := fun b u e hb => by
        have l := Heap.lt_size e
        rcases List.mem_cons.mp hb with z | z
        · rw [z] at l
          exact absurd l (Nat.not_lt.mpr (show s.heap.objs.size ≤ h3.objs.size by omega))
        · rw [List.mem_singleton.mp z] at l
          exact Nat.lt_irrefl _ l
      have J := inv_tab (more := more) (h' := s'.heap) (g' := s'.gens) (d' := s'.drawn) (t' := s'.toks) I hP
        (fun b u hb e => hm.heap b u (far b u e) (hk5 b u (old b u hb e))) (hm.heap P _ (far P _ hPs) (hk5 P _ hP3)) (AllBare.movedS (I.bare.push hgb) hm)
      rw [sh_eta s s' hm.os] at J
      exact ⟨_, ⟨⟨_, upd_same, ht3⟩, fun b hb => upd_ne hb⟩, J⟩
  cases hf : codeAmong gpos ps.toList with
  | none =>
    refine wpAny_genexprCodeX hcode (cd.code hP2 ht) (cd.tab hP2) hf fun c' h' tk hx hge hlt hco' _ htab' _ => ?_
    obtain ⟨o1, vs, f1, tf, fl, tg, inF, tx, tt, op, _, _, _, _, _, _, _, _, _, htr, _⟩ := hco'
    have hsz := Nat.le_trans hge (Nat.le_of_lt hlt)
    refine rest h' tk _ hx hsz htab'.2 htr _ fun bi => ?_
    refine ⟨_, fp, _, n, Pf, St, (fun _ => true), (fun i y => i < n → y = .bool (tr i)), rfl, hW, hst h' hx, ?_⟩
    obtain ⟨q1, q2, q3, q4⟩ := core _ h' tk _ bi hx hsz htab'.2 htr
    exact ⟨q1, q2, q3, q4, fun a h₅ tk5 gs g1 g2 _ g4 => fin h' tk _ hx hsz htab'.2 htr a h₅ tk5 gs g1 g2 g4⟩
  | some cv =>
    refine wpAny_genexprCode_hit hcode (cd.code hP2 ht) hf ?_
    have e0 : ps ++ #[] = ps := by simp
    have hP3 : (s.heap.push o).get? P = some { cls := .none, data := .fields (ps ++ #[]) } := by rw [e0]; exact hP2
    have ht3 : TriplesOk (ps ++ #[]).toList := by rw [e0]; exact ht
    have hx0 : Heap.ExtBut P (s.heap.push o) (s.heap.push o) := Heap.ExtBut.refl _ _
    refine rest (s.heap.push o) s.toks #[] hx0 (Nat.le_refl _) hP3 ht3 _ fun bi => ?_
    refine ⟨_, fp, _, n, Pf, St, (fun _ => true), (fun i y => i < n → y = .bool (tr i)), rfl, hW, hst _ hx0, ?_⟩
    obtain ⟨q1, q2, q3, q4⟩ := core cv (s.heap.push o) s.toks #[] bi hx0 (Nat.le_refl _) hP3 ht3
    exact ⟨q1, q2, q3, q4, fun a h₅ tk5 gs g1 g2 _ g4 => fin (s.heap.push o) s.toks #[] hx0 (Nat.le_refl _) hP3 ht3 a h₅ tk5 gs g1 g2 g4⟩
/-- the element for an item v of which G says that it gives b -/
def EltB (X : Cx) (P : Addr) (scope : Scope) (x : Str) (elt : Expr) (G : L2.St → Hp → V → Bool → Prop) : Prop :=
  ∀ (pins : List (Addr × Obj)) (σ : L2.St) (H : Hp) (s1 : Shared) (v : V) (b : Bool), Inv X pins σ H s1 → TabG H P → G σ H v b → ∀ (cenv : Env) (A' : Around) (E' : Value → Shared → Prop) (u : Value) (s₂ : Shared) (m₂ : Str → Option Value),
    cenv.scope = scope → cenv.cells = cloFrom X.env.cells scope.names [] → cenv.globals = X.env.globals → A'.handled = none → A'.units ≤ X.A.units + 8 → RelV v u → s₂.heap.Ns cenv.locals m₂ → m₂ x = some u →
    (∀ b u, b ≠ P → s1.heap.get? b = some u → s₂.heap.get? b = some u) → wpAny (model X.prog X.w) A' (eval elt cenv) (fun y s₃ => y = .bool b ∧ Keeps s₂ s₃) E' s₂
/-- the truths in their places -/
def trAt (f : V → Bool) (vs : List V) (j : Nat) : Bool := match vs[j]? with
  | some z => f z
  | none => true
theorem trAt_all (f : V → Bool) (vs : List V) : (List.range vs.length).all (trAt f vs) = vs.all f := by
  rw [Bool.eq_iff_iff, List.all_eq_true, List.all_eq_true]
  constructor
  · intro h z hz
    obtain ⟨j, hj, e⟩ := List.getElem_of_mem hz
    have q := h j (List.mem_range.mpr hj)
    unfold trAt at q
    rw [List.getElem?_eq_getElem hj, e] at q
    exact q
  · intro h j hj
    unfold trAt
    rw [List.getElem?_eq_getElem (List.mem_range.mp hj)]
    exact h _ (List.getElem_mem _)
/-- all(elt for x in e), e a list or a tuple; behind it the def's table may have grown -/
def tAllQ (K : PySem.W.Frag) (P : Addr) (G : L2.St → Hp → V → Bool → Prop) (te : TE) : TE := fun σ H Q => te σ H fun v H1 =>
  ∃ (a : Addr) (vs : List V) (f : V → Bool), v = .ref a ∧ (SqL K H1 a vs ∨ SqT K H1 a vs) ∧ TabG H1 P ∧ (∀ z ∈ vs, G σ H1 z (f z)) ∧ ∀ H2, Tabbed P H1 H2 → Q (.bl (vs.all f)) H2
theorem pe_allQ {c P : Addr} {elt iter : Expr} {x : Str} {px p pos gpos : Pos} {scope : Scope} {G : L2.St → Hp → V → Bool → Prop} {te : TE} {k : Nat} (hr : Room k X.A) (hg : Gl X "all") (hm : X.mg "all" = none)
    (TB : TabB X.base X.mg c P) (hcode : X.env.code = .ref c) (S : GenS X.env scope x) (hi : PE X iter te) (hel : EltB X P scope x elt G) (hs : ∀ v, genFold iter X.env v = pure v)
    (hb : bootBuiltins "all" = some (.builtin "all") := by decide +kernel)
    (he : starEach [.GeneratorExp elt [⟨.Name x px, iter, [], 0⟩] scope gpos] X.env = (false, eval (.GeneratorExp elt [⟨.Name x px, iter, [], 0⟩] scope gpos) X.env) :: starEach [] X.env := by rfl) :
    PE X (.Call (.Name "all" p) [.GeneratorExp elt [⟨.Name x px, iter, [], 0⟩] scope gpos] [] pos) (tAllQ X.K P G te) := by
  refine ⟨fun pins s σ H Q I h => wpAny_Call_Name_kw (ld_blt I hg hm hb (PyProof.Rows.callWith_builtin1 ?_ he (by rfl)))⟩
  rw [he]
  show wpAny _ _ (spliced ((false, eval (.GeneratorExp elt [⟨.Name x px, iter, [], 0⟩] scope gpos) X.env) :: backTo pos (starEach [] X.env))) _ _ s
  refine Calls.spliced_cons (wpAny_GeneratorExp_walksQD hr.hd S.co (closure_ok S.free) S.cell S.dot S.loc S.kind (by have := hr.dp; omega) ?_ hs)
  refine thn (hi.run pins s σ H _ I h) fun xv s1 ⟨v, H1, I1, r1, a, vs, f, ev, hq, hT, hG, hQ⟩ => ?_
  subst ev
  obtain rfl : xv = Value.ref a := r1
  -- the generator is made: it is walked
  have done : ∀ (n : Nat), n = vs.length → ∀ (g : Addr) (s5 : Shared), ReadyB X pins σ H1 P n (trAt f vs) g s5 → wpAny (model X.prog X.w) X.A (spliced (backTo pos (starEach [] X.env))) (fun ws s6 => wpAny (model X.prog X.w) X.A (call (.builtin "all") (.ref g :: ws)) (EP X pins σ Q) X.xe s6) X.xe s5 := by
    rintro n rfl g s5 ⟨fp, wr, Gq, F, St, W, hst, htr, hI⟩
    refine Calls.spliced_nil ?_
    refine call_all_walkS (W.self 0 _ _ _ hst ⟨g, fp, wr, Gq, _, F, St, _, rfl, W, hst, htr, fun s' hmv => ?_⟩)
    obtain ⟨H2, hT2, J⟩ := hI s' hmv
    refine ⟨.bl _, H2, J, rfl, ?_⟩
    rw [trAt_all]
    exact hQ H2 hT2
  obtain ⟨ps, hP, ht⟩ := id hT
  have hPs : s1.heap.get? P = some { cls := .none, data := .fields ps } := I1.hok P _ hP
  have item : ∀ (its : List Value), Vals vs its → EltI X P scope x elt s1 (fun i v => its.toArray[i]? = some v) (trAt f vs) := by
    intro its rv cenv A' E' i v s₂ m₂ c1 c2 c3 hA hU hv hn hmx hk
    have hv2 : its[i]? = some v := by simpa using hv
    obtain ⟨hl, _⟩ := List.getElem?_eq_some_iff.mp hv2
    rw [← rv.length] at hl
    have hz := List.getElem?_eq_getElem hl
    obtain ⟨u, hu, ru⟩ := rv.get hz
    rw [hv2] at hu
    cases hu
    have e : trAt f vs i = f vs[i] := by
      unfold trAt
      rw [hz]
    rw [e]
    exact hel pins σ H1 s1 vs[i] (f vs[i]) I1 hT (hG _ (List.getElem_mem hl)) cenv A' E' v s₂ m₂ c1 c2 c3 hA hU ru hn hmx hk
  rcases hq with hq | hq
  · obtain ⟨its, rv, pl, _⟩ := I1.list hq
    have hIL := pl.isList
    obtain ⟨ob, e1, e2⟩ := id hIL
    have aP : a ≠ P := fun z => by
      rw [z, hPs] at e1
      cases e1
      obtain ⟨_, _, e4⟩ := e2
      cases e4
    refine gen_run (Q' := fun v s5 => wpAny (model X.prog X.w) X.A (spliced (backTo pos (starEach [] X.env))) (fun ws s6 => wpAny (model X.prog X.w) X.A (call (.builtin "all") (v :: ws)) (EP X pins σ Q) X.xe s6) X.xe s5) (n := its.toArray.size) (Pf := fun i v => its.toArray[i]? = some v) (fp := [s1.heap.objs.size, a]) hr TB hcode I1 hT (fun Q₂ q => wpAny_pyIter_list hIL q) (fun A' hA => Walks.list hA _ _ (Nat.ne_of_lt (Heap.lt_size e1)) _) (fun h3 hx => ⟨?_, ?_⟩) ?_ (item its rv) (fun g s5 hR => ?_)
    · exact ⟨_, hx _ _ (Nat.ne_of_gt (Heap.lt_size hPs)) (Heap.get?_push_size _ rfl), rfl, rfl⟩
    · exact ⟨ob, hx _ _ aP (Heap.get?_push_of_some _ e1), e2⟩
    · intro b hb
      rcases List.mem_cons.mp hb with z | z
      · rw [z]
        exact Nat.le_refl _
      · rw [List.mem_singleton.mp z]
        exact Nat.le_of_lt (Heap.lt_size e1)
    · exact done its.toArray.size (by rw [List.size_toArray, rv.length]) g s5 hR
  · obtain ⟨its, rv, pl, _⟩ := I1.tuple hq
    have hIL : s1.heap.IsTuple a its.toArray := pl
    obtain ⟨ob, e1, e2⟩ := id hIL
    have aP : a ≠ P := fun z => by
      rw [z, hPs] at e1
      cases e1
      obtain ⟨_, _, e4⟩ := e2
      cases e4
    refine gen_run (Q' := fun v s5 => wpAny (model X.prog X.w) X.A (spliced (backTo pos (starEach [] X.env))) (fun ws s6 => wpAny (model X.prog X.w) X.A (call (.builtin "all") (v :: ws)) (EP X pins σ Q) X.xe s6) X.xe s5) (n := its.toArray.size) (Pf := fun i v => its.toArray[i]? = some v) (fp := [s1.heap.objs.size, a]) hr TB hcode I1 hT (fun Q₂ q => wpAny_pyIter_tuple hIL q) (fun A' hA => Walks.tuple hA _ _ (Nat.ne_of_lt (Heap.lt_size e1)) _) (fun h3 hx => ⟨?_, ?_⟩) ?_ (item its rv) (fun g s5 hR => ?_)
    · exact ⟨_, hx _ _ (Nat.ne_of_gt (Heap.lt_size hPs)) (Heap.get?_push_size _ rfl), rfl, rfl⟩
    · exact ⟨ob, hx _ _ aP (Heap.get?_push_of_some _ e1), e2⟩
    · intro b hb
      rcases List.mem_cons.mp hb with z | z
      · rw [z]
        exact Nat.le_refl _
      · rw [List.mem_singleton.mp z]
        exact Nat.le_of_lt (Heap.lt_size e1)
    · exact done its.toArray.size (by rw [List.size_toArray, rv.length]) g s5 hR
/-- 0 <= x < y, y a captured name that stands in the slot j -/
def GBelow (j : Nat) : L2.St → Hp → V → Bool → Prop := fun σ _ v b => ∃ n L : Int, v = .int n ∧ σ[j]? = some (some (.int L)) ∧ b = (decide (0 ≤ n) && decide (n < L))
theorem elt_below {P : Addr} {scope : Scope} {x y : Str} {j jc : Nat} {p0 p1 p2 p3 : Pos} (hk : scope.kind = .function) (hx : scope.names.lookup x = some .local) (hy : scope.names.lookup y = some .free) (hN : X.N[j]? = some y) (hv : X.env.scope.names.lookup y = some .cell)
    (hclo : (cloFrom X.env.cells scope.names []).lookup y = some ((X.env.cells.lookup y).getD 0))
    (hd : (x == ("__debug__" : Str)) = false := by decide) (hd2 : (y == ("__debug__" : Str)) = false := by decide) (hcd : (y == ("__classdict__" : Str)) = false := by decide) :
    EltB X P scope x (.Compare (.Constant (.int 0) jc p0) [.LtE, .Lt] [.Name x p1, .Name y p2] p3) (GBelow j) := by
  rintro pins σ H s1 v b I ⟨ps, hT, _⟩ ⟨n, L, rfl, hj, rfl⟩ cenv A' E' u s₂ m₂ rfl c2 _ _ _ ru hn hm kept
  obtain ⟨t, rfl⟩ := (show ∃ t, u = Value.int n t from ru)
  obtain ⟨m, _, hl⟩ := I.loc
  obtain ⟨uL, rL, look⟩ := hl j y _ hN hj (.inr (.inl hv))
  obtain ⟨tL, rfl⟩ := (show ∃ t, uL = Value.int L t from rL)
  have hP : s1.heap.get? P = some { cls := .none, data := .fields ps } := I.hok P _ hT
  rcases look with ⟨z, _⟩ | ⟨_, cc, hc, hcell⟩
  · rw [show X.env.kindOf y = X.env.scope.names.lookup y from rfl, hv] at z
    cases z
  · have hcell2 : s₂.heap.IsCell cc (some (.int L tL)) := by
      obtain ⟨o, e1, e2⟩ := hcell
      refine ⟨o, kept cc o (fun z => ?_) e1, e2⟩
      rw [z, hP] at e1
      cases e1
      cases e2
    refine Compare_chain (wpAny_Constant_int (chain_link ?_))
    refine wpAny_Name (wpAny_loadName_local hk hx hn hm ?_) hd
    refine le_int (wpAny_truthy_bool ?_)
    by_cases c0 : 0 ≤ n
    · rw [decide_eq_true c0, Bool.true_and]
      refine ite_tt (chain_last (wpAny_Name (wpAny_loadName_free hk hy (c := cc) ?_ hcell2 ?_ hcd) hd2))
      · rw [c2, hclo, hc] <;> rfl
      · exact lt_int ⟨rfl, keeps_tok _ _⟩
    · rw [decide_eq_false c0, Bool.false_and]
      exact ite_ff ⟨rfl, keeps_tok _ _⟩
end
end Mz

set_option Elab.async false
set_option linter.all false
set_option maxRecDepth 100000
set_option maxHeartbeats 4000000
/-! what the laws' own helpers draw: numbers, sizes, machines -/
namespace Mz
open PySem PySem.Spec PyProof.Rows L2
theorem same_upd {H H' : Hp} {p : Addr} {o : HO} (s : Same H H') (h : H' p = none) : Same H (upd H' p o) := fun b u e => by
  rw [upd_ne (ne_of_none (s b u e) h)]
  exact s b u e
theorem same_set {H H' : Hp} {p : Addr} {o : HO} (s : Same H H') (h : H p = none) : Same H (L2.upd H' p o) := fun b u e => by
  rw [upd_ne (ne_of_none e h)]
  exact s b u e
theorem getV {α : Type} {f : α → V} {ns : List α} {j : Nat} {z : α} (h : ns[j]? = some z) : (ns.map f)[j]? = some (f z) := by
  rw [List.getElem?_map, h]
  rfl
theorem ofV {α : Type} {f : α → V} {ns : List α} {j : Nat} {y : V} (h : (ns.map f)[j]? = some y) : ∃ z, ns[j]? = some z ∧ y = f z := by
  rw [List.getElem?_map] at h
  cases e : ns[j]? with
  | none =>
    rw [e] at h
    cases h
  | some z =>
    rw [e] at h
    exact ⟨z, rfl, (Option.some.inj h).symm⟩
theorem atI_get? {α : Type} {f : α → V} {ns : List α} {i : Int} {z : α} (h0 : 0 ≤ i) (h : ns[i.toNat]? = some z) : atI (ns.map f) i = some (f z) := by
  have e : i = ((i.toNat : Nat) : Int) := by omega
  rw [e]
  exact atI_nat (getV h)
theorem take_more {α : Type} : ∀ {l : List α} {i : Nat} {x : α}, l[i]? = some x → l.take (i + 1) = l.take i ++ [x]
  | [], i, x, h => by simp at h
  | a :: l, 0, x, h => by
    have e : a = x := Option.some.inj h
    subst e
    rfl
  | a :: l, i + 1, x, h => by
    have ih := take_more (l := l) (i := i) (x := x) h
    show a :: l.take (i + 1) = a :: l.take i ++ [x]
    rw [ih]
    rfl
/-! ### the numbers -/
/-- what a stream holds -/
structure Strm (ns : List Int) : Prop where
  ne : 0 < ns.length
  few : ns.length ≤ 4000
  ok : ∀ z ∈ ns, 0 ≤ z ∧ z < 1009
/-- the number at a place, below many -/
def pk (ns : List Int) (i many : Int) : Int := ns.getD (i % (ns.length : Int)).toNat 0 % many
theorem pk_lo {ns : List Int} {i many : Int} (h : 0 < many) : 0 ≤ pk ns i many := Int.emod_nonneg _ (by omega)
theorem pk_hi {ns : List Int} {i many : Int} (h : 0 < many) : pk ns i many < many := Int.emod_lt_of_pos _ h
theorem pk_at {ns : List Int} (i : Int) (h : 0 < ns.length) : ∃ z, ns[(i % (ns.length : Int)).toNat]? = some z ∧ ns.getD (i % (ns.length : Int)).toNat 0 = z ∧ 0 ≤ i % (ns.length : Int) := by
  have h0 := Int.emod_nonneg i (show (ns.length : Int) ≠ 0 by omega)
  have h1 := Int.emod_lt_of_pos i (show 0 < (ns.length : Int) by omega)
  have lt : (i % (ns.length : Int)).toNat < ns.length := by omega
  refine ⟨ns[(i % (ns.length : Int)).toNat], List.getElem?_eq_getElem lt, ?_, h0⟩
  rw [List.getD_eq_getElem?_getD, List.getElem?_eq_getElem lt]
  rfl
/-! ### machines -/
structure Mach where
  ls : Int
  os : Int
  rows : List (List Int)
  outs : List Int
/-- a tuple of ints -/
def IT (H : Hp) (a : Addr) (ns : List Int) : Prop := H a = some (.tup (ns.map V.int))
/-- the machine M stands at m -/
structure MAt (H : Hp) (m : Addr) (M : Mach) (mv ou : Addr) (rs : List Addr) : Prop where
  top : H m = some (.tup [.int M.ls, .int M.os, .ref mv, .ref ou])
  mv : H mv = some (.tup (rs.map V.ref))
  ou : IT H ou M.outs
  len : rs.length = M.rows.length
  row : ∀ (i : Nat) (r : Addr) (w : List Int), rs[i]? = some r → M.rows[i]? = some w → IT H r w
def MA (H : Hp) (m : Addr) (M : Mach) : Prop := ∃ mv ou rs, MAt H m M mv ou rs
theorem MAt.same {H H' : Hp} {m : Addr} {M : Mach} {mv ou : Addr} {rs : List Addr} (h : MAt H m M mv ou rs) (s : Same H H') : MAt H' m M mv ou rs :=
  ⟨s _ _ h.top, s _ _ h.mv, s _ _ h.ou, h.len, fun i r w a b => s _ _ (h.row i r w a b)⟩
theorem MA.same {H H' : Hp} {m : Addr} {M : Mach} (h : MA H m M) (s : Same H H') : MA H' m M := by
  obtain ⟨mv, ou, rs, h⟩ := h
  exact ⟨mv, ou, rs, h.same s⟩
/-- what check_machine asks -/
structure Good (M : Mach) : Prop where
  l1 : 1 ≤ M.ls
  l4 : M.ls ≤ 4
  o1 : 1 ≤ M.os
  o6 : M.os ≤ 6
  s1 : 1 ≤ M.rows.length
  s30 : M.rows.length ≤ 30
  ol : M.outs.length = M.rows.length
  rl : ∀ w ∈ M.rows, (w.length : Int) = M.ls
  rb : ∀ w ∈ M.rows, ∀ z ∈ w, 0 ≤ z ∧ z < (M.rows.length : Int)
  ob : ∀ z ∈ M.outs, 0 ≤ z ∧ z < M.os
/-- the next state -/
def Mach.next (M : Mach) (s a : Int) : Int := (M.rows.getD s.toNat []).getD a.toNat 0
def Mach.run (M : Mach) (s : Int) (w : List Int) : Int := w.foldl M.next s
def Mach.out (M : Mach) (s : Int) : Int := M.outs.getD s.toNat 0
/-- a state -/
def Mach.St (M : Mach) (s : Int) : Prop := 0 ≤ s ∧ s < (M.rows.length : Int)
/-- letters -/
def Lt (k : Int) (w : List Int) : Prop := ∀ z ∈ w, 0 ≤ z ∧ z < k
theorem Good.st0 {M : Mach} (g : Good M) : M.St 0 := ⟨by decide, by have := g.s1; omega⟩
theorem Good.row {M : Mach} (g : Good M) {s : Int} (h : M.St s) : ∃ w, M.rows[s.toNat]? = some w ∧ w ∈ M.rows ∧ M.rows.getD s.toNat [] = w := by
  have lt : s.toNat < M.rows.length := by have := h.1; have := h.2; omega
  refine ⟨M.rows[s.toNat], List.getElem?_eq_getElem lt, List.getElem_mem lt, ?_⟩
  rw [List.getD_eq_getElem?_getD, List.getElem?_eq_getElem lt]
  rfl
theorem Good.step {M : Mach} (g : Good M) {s a : Int} (h : M.St s) (h0 : 0 ≤ a) (h1 : a < M.ls) : M.St (M.next s a) ∧ ∃ w, M.rows[s.toNat]? = some w ∧ w[a.toNat]? = some (M.next s a) := by
  obtain ⟨w, e1, e2, e3⟩ := g.row h
  have l := g.rl w e2
  have lt : a.toNat < w.length := by omega
  have e : M.next s a = w[a.toNat] := by
    unfold Mach.next
    rw [e3, List.getD_eq_getElem?_getD, List.getElem?_eq_getElem lt]
    rfl
  rw [e]
  exact ⟨g.rb w e2 _ (List.getElem_mem lt), w, e1, List.getElem?_eq_getElem lt⟩
theorem Good.outp {M : Mach} (g : Good M) {s : Int} (h : M.St s) : M.outs[s.toNat]? = some (M.out s) ∧ 0 ≤ M.out s ∧ M.out s < M.os := by
  have lt : s.toNat < M.outs.length := by have := h.1; have := h.2; have := g.ol; omega
  have e : M.out s = M.outs[s.toNat] := by
    unfold Mach.out
    rw [List.getD_eq_getElem?_getD, List.getElem?_eq_getElem lt]
    rfl
  rw [e]
  exact ⟨List.getElem?_eq_getElem lt, g.ob _ (List.getElem_mem lt)⟩
theorem Good.runs {M : Mach} (g : Good M) : ∀ {w : List Int} {s : Int}, M.St s → Lt M.ls w → M.St (M.run s w)
  | [], s, h, _ => h
  | a :: w, s, h, hw => Good.runs g (w := w) (g.step h (hw a (.head _)).1 (hw a (.head _)).2).1 fun z hz => hw z (.tail _ hz)
theorem run_snoc (M : Mach) (s : Int) (w : List Int) (a : Int) : M.run s (w ++ [a]) = M.next (M.run s w) a := by
  unfold Mach.run
  rw [List.foldl_append]
  rfl
/-! ### reading the parts of a machine -/
section
variable {K : PySem.W.Frag} {H : Hp} {m : Addr} {M : Mach} {mv ou : Addr} {rs : List Addr}
theorem MAt.rowAt (h : MAt H m M mv ou rs) {s : Int} (h0 : 0 ≤ s) {w : List Int} (e : M.rows[s.toNat]? = some w) : ∃ r, atI (rs.map V.ref) s = some (.ref r) ∧ IT H r w := by
  obtain ⟨lt, _⟩ := List.getElem?_eq_some_iff.mp e
  have lt2 : s.toNat < rs.length := by rw [h.len]; exact lt
  exact ⟨rs[s.toNat], atI_get? h0 (List.getElem?_eq_getElem lt2), h.row _ _ _ (List.getElem?_eq_getElem lt2) e⟩
end
end Mz

set_option Elab.async false
set_option linter.all false
set_option maxRecDepth 100000
set_option maxHeartbeats 4000000
/-! words in their order as numbers; pairs of states; the first word that parts a pair -/
namespace Mz
open PySem PySem.Spec PyProof.Rows L2
/-- words of letters below 4, in their order -/
def code (w : List Int) : Nat := w.foldl (fun n a => 5 * n + a.toNat + 1) 0
theorem code_snoc (w : List Int) (a : Int) : code (w ++ [a]) = 5 * code w + a.toNat + 1 := by
  unfold code
  rw [List.foldl_append]
  rfl
theorem snoc_ind {α : Type} {P : List α → Prop} (h0 : P []) (hs : ∀ w a, P w → P (w ++ [a])) (w : List α) : P w := by
  have key : ∀ (n : Nat) (w : List α), w.length = n → P w := by
    intro n
    induction n with
    | zero => intro w e; rw [List.length_eq_zero_iff.mp e]; exact h0
    | succ n ih =>
      intro w e
      have ne : w ≠ [] := fun z => by rw [z] at e; cases e
      rw [← List.dropLast_concat_getLast ne]
      exact hs _ _ (ih _ (by rw [List.length_dropLast, e]; rfl))
  exact key _ w rfl
theorem code_inj {k : Int} (hk : k ≤ 4) : ∀ (u v : List Int), Lt k u → Lt k v → code u = code v → u = v := by
  intro u
  induction u using snoc_ind with
  | h0 =>
    intro v _ hv e
    induction v using snoc_ind with
    | h0 => rfl
    | hs v b _ =>
      rw [code_snoc] at e
      have : code ([] : List Int) = 0 := rfl
      omega
  | hs u a ih =>
    intro v hu hv e
    induction v using snoc_ind with
    | h0 =>
      rw [code_snoc] at e
      have : code ([] : List Int) = 0 := rfl
      omega
    | hs v b _ =>
      rw [code_snoc, code_snoc] at e
      have ha := hu a (by simp)
      have hb := hv b (by simp)
      have e1 : a = b := by omega
      subst e1
      rw [ih v (fun z hz => hu z (by simp [hz])) (fun z hz => hv z (by simp [hz])) (by omega)]
theorem code_cons (a : Int) : ∀ w : List Int, code (a :: w) = (a.toNat + 1) * 5 ^ w.length + code w := by
  intro w
  induction w using snoc_ind with
  | h0 =>
    show 5 * 0 + a.toNat + 1 = (a.toNat + 1) * 5 ^ 0 + 0
    omega
  | hs w b ih =>
    rw [← List.cons_append, code_snoc, code_snoc, ih, List.length_append, List.length_singleton, Nat.pow_succ]
    have e : (a.toNat + 1) * (5 ^ w.length * 5) = 5 * ((a.toNat + 1) * 5 ^ w.length) := by
      rw [← Nat.mul_assoc, Nat.mul_comm]
    rw [e]
    omega
theorem code_lt {k : Int} (hk : k ≤ 4) : ∀ {w : List Int}, Lt k w → code w < 5 ^ w.length := by
  intro w
  induction w using snoc_ind with
  | h0 => intro _; show 0 < 1; omega
  | hs w b ih =>
    intro h
    have i := ih fun z hz => h z (by simp [hz])
    have hb := h b (by simp)
    rw [code_snoc, List.length_append, List.length_singleton, Nat.pow_succ]
    omega
theorem code_ge : ∀ w : List Int, 5 ^ w.length ≤ 4 * code w + 1 := by
  intro w
  induction w using snoc_ind with
  | h0 => show 1 ≤ _; omega
  | hs w b ih =>
    rw [code_snoc, List.length_append, List.length_singleton, Nat.pow_succ]
    omega
/-- a shorter word comes first -/
theorem code_short {k : Int} (hk : k ≤ 4) {u v : List Int} (hu : Lt k u) (h : u.length < v.length) : code u < code v := by
  have h1 := code_lt hk hu
  have h2 := code_ge v
  have h3 : 5 ^ (u.length + 1) ≤ 5 ^ v.length := Nat.pow_le_pow_right (by decide) h
  rw [Nat.pow_succ] at h3
  omega
/-! ### pairs of states -/
abbrev Pr := Int × Int
section
variable (M N : Mach)
def stepP (p : Pr) (a : Int) : Pr := (M.next p.1 a, N.next p.2 a)
def runP (p : Pr) (w : List Int) : Pr := w.foldl (stepP M N) p
def Bad (p : Pr) : Prop := M.out p.1 ≠ N.out p.2
/-- both are states -/
def InP (p : Pr) : Prop := M.St p.1 ∧ N.St p.2
/-- machines of a kind -/
structure Kin : Prop where
  gm : Good M
  gn : Good N
  ls : M.ls = N.ls
/-- w is the first word that parts p -/
structure Part (p : Pr) (w : List Int) : Prop where
  lt : Lt M.ls w
  bad : Bad M N (runP M N p w)
  min : ∀ v, Lt M.ls v → Bad M N (runP M N p v) → code w ≤ code v
/-- no word parts p -/
def NoPart (p : Pr) : Prop := ∀ v, Lt M.ls v → ¬ Bad M N (runP M N p v)
end
section
variable {M N : Mach}
theorem runP_snoc (p : Pr) (w : List Int) (a : Int) : runP M N p (w ++ [a]) = stepP M N (runP M N p w) a := by
  unfold runP
  rw [List.foldl_append]
  rfl
theorem runP_cons (p : Pr) (w : List Int) (a : Int) : runP M N p (a :: w) = runP M N (stepP M N p a) w := rfl
theorem Kin.step (k : Kin M N) {p : Pr} (h : InP M N p) {a : Int} (h0 : 0 ≤ a) (h1 : a < M.ls) : InP M N (stepP M N p a) :=
  ⟨(k.gm.step h.1 h0 h1).1, (k.gn.step h.2 h0 (by rw [← k.ls]; exact h1)).1⟩
theorem Part.uniq (k : Kin M N) {p : Pr} {u v : List Int} (hu : Part M N p u) (hv : Part M N p v) : u = v :=
  code_inj k.gm.l4 u v hu.lt hv.lt (Nat.le_antisymm (hu.min v hv.lt hv.bad) (hv.min u hu.lt hu.bad))
theorem Part.not (k : Kin M N) {p : Pr} {u : List Int} (hu : Part M N p u) (hn : NoPart M N p) : False := hn u hu.lt hu.bad
theorem lt_snoc {k : Int} {w : List Int} {a : Int} : Lt k (w ++ [a]) ↔ Lt k w ∧ 0 ≤ a ∧ a < k := by
  constructor
  · intro h
    exact ⟨fun z hz => h z (by simp [hz]), h a (by simp)⟩
  · rintro ⟨h1, h2⟩ z hz
    rcases List.mem_append.mp hz with e | e
    · exact h1 z e
    · rw [List.mem_singleton.mp e]
      exact h2
/-! ### the search by widths -/
structure Nd where
  pr : Pr
  wd : List Int
  ta : Addr
  wa : Addr
/-- all places below pl are done, at pl the letters below a -/
structure Bfs (M N : Mach) (st : Pr) (L : List Nd) (pl a : Nat) : Prop where
  fst : ∃ n, L[0]? = some n ∧ n.pr = st ∧ n.wd = []
  inc : ∀ (i j : Nat) (x y : Nd), L[i]? = some x → L[j]? = some y → i < j → code x.wd < code y.wd
  run : ∀ x ∈ L, runP M N st x.wd = x.pr ∧ Lt M.ls x.wd ∧ InP M N x.pr
  done : ∀ (i b : Nat) (x : Nd), L[i]? = some x → (i < pl ∨ i = pl ∧ b < a) → (b : Int) < M.ls → ∃ y ∈ L, y.pr = stepP M N x.pr b ∧ code y.wd ≤ 5 * code x.wd + b + 1
  good : ∀ (i : Nat) (x : Nd), L[i]? = some x → (i < pl ∨ i = pl ∧ 0 < a) → ¬ Bad M N x.pr
  gen : ∀ (j : Nat) (y : Nd), L[j]? = some y → code y.wd = 0 ∨ ∃ (i b : Nat) (x : Nd), L[i]? = some x ∧ (i < pl ∨ i = pl ∧ b < a) ∧ (b : Int) < M.ls ∧ code y.wd = 5 * code x.wd + b + 1
  nod : (L.map (·.pr)).Nodup
  len : ∀ x ∈ L, x.wd.length ≤ L.length
theorem Bfs.here {st : Pr} {L : List Nd} {pl a : Nat} (B : Bfs M N st L pl a) {i : Nat} {x : Nd} (h : L[i]? = some x) : x ∈ L := List.mem_of_getElem? h
theorem Bfs.start (k : Kin M N) {st : Pr} (h : InP M N st) {t w : Addr} : Bfs M N st [⟨st, [], t, w⟩] 0 0 where
  fst := ⟨_, rfl, rfl, rfl⟩
  inc := fun i j x y hi hj lt => by
    have h1 := (List.getElem?_eq_some_iff.mp hj).1
    simp at h1
    omega
  run := fun x hx => by
    rw [List.mem_singleton.mp hx]
    exact ⟨rfl, fun z hz => absurd hz (by simp), h⟩
  done := fun i b x _ o => by
    rcases o with o | o
    · exact absurd o (Nat.not_lt_zero _)
    · exact absurd o.2 (Nat.not_lt_zero _)
  good := fun i x _ o => by
    rcases o with o | o
    · exact absurd o (Nat.not_lt_zero _)
    · exact absurd o.2 (Nat.not_lt_zero _)
  gen := fun j y hy => by
    rw [List.mem_singleton.mp (List.mem_of_getElem? hy)]
    exact .inl rfl
  nod := by simp
  len := fun x hx => by
    rw [List.mem_singleton.mp hx]
    exact Nat.zero_le _
/-- each word is led by a done place, or not before the place -/
theorem Bfs.claim (k : Kin M N) {st : Pr} {L : List Nd} {pl : Nat} (B : Bfs M N st L pl 0) : ∀ v : List Int, Lt M.ls v →
    (∃ (i : Nat) (x : Nd), L[i]? = some x ∧ i < pl ∧ x.pr = runP M N st v ∧ code x.wd ≤ code v) ∨ ∃ (i : Nat) (x : Nd), L[i]? = some x ∧ pl ≤ i ∧ code x.wd ≤ code v := by
  intro v
  induction v using snoc_ind with
  | h0 =>
    intro _
    obtain ⟨n, e, e1, e2⟩ := B.fst
    by_cases h : 0 < pl
    · exact .inl ⟨0, n, e, h, e1, by rw [e2]; exact Nat.le_refl _⟩
    · exact .inr ⟨0, n, e, by omega, by rw [e2]; exact Nat.le_refl _⟩
  | hs v a ih =>
    intro hv
    obtain ⟨hv1, a0, a1⟩ := lt_snoc.mp hv
    rw [code_snoc]
    rcases ih hv1 with ⟨i, x, e, lt, e1, e2⟩ | ⟨i, x, e, le, e2⟩
    · obtain ⟨y, hy, y1, y2⟩ := B.done i a.toNat x e (.inl lt) (by omega)
      obtain ⟨j, hj, ej⟩ := List.getElem_of_mem hy
      have hj2 : L[j]? = some y := by rw [List.getElem?_eq_getElem hj, ej]
      have ea : ((a.toNat : Nat) : Int) = a := by omega
      by_cases h : j < pl
      · exact .inl ⟨j, y, hj2, h, by rw [runP_snoc, ← e1, y1, ea], by omega⟩
      · exact .inr ⟨j, y, hj2, by omega, by omega⟩
    · exact .inr ⟨i, x, e, le, by omega⟩
theorem Bfs.found (k : Kin M N) {st : Pr} {L : List Nd} {pl : Nat} (B : Bfs M N st L pl 0) {x : Nd} (hx : L[pl]? = some x) (hb : Bad M N x.pr) : Part M N st x.wd where
  lt := (B.run x (B.here hx)).2.1
  bad := by
    rw [(B.run x (B.here hx)).1]
    exact hb
  min := fun v hv hb2 => by
    rcases B.claim k v hv with ⟨i, y, e, lt, e1, e2⟩ | ⟨i, y, e, le, e2⟩
    · rw [← e1] at hb2
      exact absurd hb2 (B.good i y e (.inl lt))
    · by_cases h : pl = i
      · subst h
        rw [hx] at e
        cases e
        exact e2
      · have := B.inc pl i x y hx e (by omega)
        omega
theorem Bfs.none (k : Kin M N) {st : Pr} {L : List Nd} (B : Bfs M N st L L.length 0) : NoPart M N st := fun v hv hb => by
  rcases B.claim k v hv with ⟨i, y, e, lt, e1, e2⟩ | ⟨i, y, e, le, e2⟩
  · rw [← e1] at hb
    exact B.good i y e (.inl lt) hb
  · have := (List.getElem?_eq_some_iff.mp e).1
    omega
theorem Bfs.enter {st : Pr} {L : List Nd} {pl : Nat} (B : Bfs M N st L pl 0) {x : Nd} (hx : L[pl]? = some x) (hb : ¬ Bad M N x.pr) : True := trivial
/-- the letter's pair is there -/
theorem Bfs.old (k : Kin M N) {st : Pr} {L : List Nd} {pl a : Nat} (B : Bfs M N st L pl a) {x : Nd} (hx : L[pl]? = some x) (hb : ¬ Bad M N x.pr) (ha : (a : Int) < M.ls) {y : Nd} (hy : y ∈ L) (e : y.pr = stepP M N x.pr a) : Bfs M N st L pl (a + 1) where
  fst := B.fst
  inc := B.inc
  run := B.run
  done := fun i b z hz o hb2 => by
    rcases o with o | ⟨o1, o2⟩
    · exact B.done i b z hz (.inl o) hb2
    · by_cases h : b = a
      · subst h o1
        rw [hx] at hz
        cases hz
        refine ⟨y, hy, e, ?_⟩
        obtain ⟨j, hj, ej⟩ := List.getElem_of_mem hy
        have hj2 : L[j]? = some y := by rw [List.getElem?_eq_getElem hj, ej]
        rcases B.gen j y hj2 with q | ⟨i2, b2, x2, q1, q2, q3, q4⟩
        · omega
        · rcases q2 with q2 | ⟨q2, q5⟩
          · have := B.inc i2 i x2 x q1 hx q2
            have := k.gm.l4
            omega
          · subst q2
            rw [hx] at q1
            cases q1
            omega
      · exact B.done i b z hz (.inr ⟨o1, by omega⟩) hb2
  good := fun i z hz o => by
    rcases o with o | ⟨o1, o2⟩
    · exact B.good i z hz (.inl o)
    · subst o1
      rw [hx] at hz
      cases hz
      exact hb
  gen := fun j z hz => by
    rcases B.gen j z hz with q | ⟨i2, b2, x2, q1, q2, q3, q4⟩
    · exact .inl q
    · refine .inr ⟨i2, b2, x2, q1, ?_, q3, q4⟩
      rcases q2 with q2 | ⟨q2, q5⟩
      · exact .inl q2
      · exact .inr ⟨q2, by omega⟩
  nod := B.nod
  len := B.len
theorem get_app {α : Type} {l : List α} {z y : α} {i : Nat} (h : (l ++ [z])[i]? = some y) : l[i]? = some y ∨ (i = l.length ∧ y = z) := by
  by_cases c : i < l.length
  · rw [List.getElem?_append_left c] at h
    exact .inl h
  · have lt := (List.getElem?_eq_some_iff.mp h).1
    rw [List.length_append, List.length_singleton] at lt
    have e : i = l.length := by omega
    subst e
    rw [List.getElem?_append_right (Nat.le_refl _), Nat.sub_self] at h
    cases h
    exact .inr ⟨rfl, rfl⟩
theorem get_app1 {α : Type} {l : List α} {z y : α} {i : Nat} (h : l[i]? = some y) : (l ++ [z])[i]? = some y := by
  rw [List.getElem?_append_left (List.getElem?_eq_some_iff.mp h).1]
  exact h
/-- the letter's pair is new -/
theorem Bfs.push (k : Kin M N) {st : Pr} {L : List Nd} {pl a : Nat} (B : Bfs M N st L pl a) {x : Nd} (hx : L[pl]? = some x) (hb : ¬ Bad M N x.pr) (ha : (a : Int) < M.ls) {t w : Addr} (new : ∀ y ∈ L, y.pr ≠ stepP M N x.pr a) :
    Bfs M N st (L ++ [⟨stepP M N x.pr a, x.wd ++ [(a : Int)], t, w⟩]) pl (a + 1) := by
  have l4 := k.gm.l4
  have big : ∀ (j : Nat) (y : Nd), L[j]? = some y → code y.wd < 5 * code x.wd + a + 1 := fun j y hy => by
    rcases B.gen j y hy with q | ⟨i2, b2, x2, q1, q2, q3, q4⟩
    · omega
    · rcases q2 with q2 | ⟨q2, q5⟩
      · have := B.inc i2 pl x2 x q1 hx q2
        omega
      · subst q2
        rw [hx] at q1
        cases q1
        omega
  have cn : code (x.wd ++ [(a : Int)]) = 5 * code x.wd + a + 1 := by rw [code_snoc]; omega
  obtain ⟨r1, r2, r3⟩ := B.run x (B.here hx)
  refine ⟨?_, ?_, ?_, ?_, ?_, ?_, ?_, ?_⟩
  · obtain ⟨n, e, e2⟩ := B.fst
    exact ⟨n, get_app1 e, e2⟩
  · intro i j u v hu hv lt
    rcases get_app hv with hv | ⟨ev, rfl⟩
    · rcases get_app hu with hu | ⟨eu, rfl⟩
      · exact B.inc i j u v hu hv lt
      · have := (List.getElem?_eq_some_iff.mp hv).1
        omega
    · rcases get_app hu with hu | ⟨eu, rfl⟩
      · show code u.wd < code (x.wd ++ [(a : Int)])
        rw [cn]
        exact big i u hu
      · omega
  · intro y hy
    rcases List.mem_append.mp hy with e | e
    · exact B.run y e
    · rw [List.mem_singleton.mp e]
      exact ⟨by rw [runP_snoc, r1], lt_snoc.mpr ⟨r2, by omega, ha⟩, k.step r3 (by omega) ha⟩
  · intro i b z hz o hb2
    have old : ∀ {y : Nd}, L[i]? = some z → ((i < pl) ∨ (i = pl ∧ b < a)) → ∃ y ∈ L ++ [⟨stepP M N x.pr a, x.wd ++ [(a : Int)], t, w⟩], y.pr = stepP M N z.pr b ∧ code y.wd ≤ 5 * code z.wd + b + 1 := fun {y} h1 h2 => by
      obtain ⟨y, hy, q⟩ := B.done i b z h1 h2 hb2
      exact ⟨y, List.mem_append.mpr (.inl hy), q⟩
    have lt : i < L.length := by
      have := (List.getElem?_eq_some_iff.mp hx).1
      omega
    rcases get_app hz with h0 | ⟨ez, _⟩
    · rcases o with o | ⟨o1, o2⟩
      · exact old (y := x) h0 (.inl o)
      · by_cases h : b = a
        · subst h o1
          rw [hx] at h0
          cases h0
          exact ⟨_, List.mem_append.mpr (.inr List.mem_cons_self), rfl, by show code (x.wd ++ [(b : Int)]) ≤ _; rw [cn]; omega⟩
        · exact old (y := x) h0 (.inr ⟨o1, by omega⟩)
    · omega
  · intro i z hz o
    have lt : i < L.length := by
      have := (List.getElem?_eq_some_iff.mp hx).1
      omega
    rcases get_app hz with hz | ⟨ez, _⟩
    · rcases o with o | ⟨o1, o2⟩
      · exact B.good i z hz (.inl o)
      · subst o1
        rw [hx] at hz
        cases hz
        exact hb
    · omega
  · intro j z hz
    rcases get_app hz with hz | ⟨ez, rfl⟩
    · rcases B.gen j z hz with q | ⟨i2, b2, x2, q1, q2, q3, q4⟩
      · exact .inl q
      · refine .inr ⟨i2, b2, x2, get_app1 q1, ?_, q3, q4⟩
        rcases q2 with q2 | ⟨q2, q5⟩
        · exact .inl q2
        · exact .inr ⟨q2, by omega⟩
    · exact .inr ⟨pl, a, x, get_app1 hx, .inr ⟨rfl, by omega⟩, ha, by rw [cn]⟩
  · rw [List.map_append]
    refine List.nodup_append.mpr ⟨B.nod, by simp, fun p hp q hq => ?_⟩
    obtain ⟨y, hy, rfl⟩ := List.mem_map.mp hp
    simp at hq
    rw [hq]
    exact new y hy
  · intro y hy
    rw [List.length_append, List.length_singleton]
    rcases List.mem_append.mp hy with e | e
    · have := B.len y e
      omega
    · rw [List.mem_singleton.mp e]
      show (x.wd ++ [(a : Int)]).length ≤ _
      rw [List.length_append, List.length_singleton]
      have := B.len x (B.here hx)
      omega
/-- on to the next place -/
theorem Bfs.next (k : Kin M N) {st : Pr} {L : List Nd} {pl : Nat} {a : Nat} (B : Bfs M N st L pl a) (ha : M.ls = a) : Bfs M N st L (pl + 1) 0 where
  fst := B.fst
  inc := B.inc
  run := B.run
  done := fun i b z hz o hb2 => by
    rcases o with o | ⟨_, o2⟩
    · by_cases h : i = pl
      · exact B.done i b z hz (.inr ⟨h, by omega⟩) hb2
      · exact B.done i b z hz (.inl (by omega)) hb2
    · exact absurd o2 (Nat.not_lt_zero _)
  good := fun i z hz o => by
    rcases o with o | ⟨_, o2⟩
    · by_cases h : i = pl
      · exact B.good i z hz (.inr ⟨h, by have := k.gm.l1; omega⟩)
      · exact B.good i z hz (.inl (by omega))
    · exact absurd o2 (Nat.not_lt_zero _)
  gen := fun j z hz => by
    rcases B.gen j z hz with q | ⟨i2, b2, x2, q1, q2, q3, q4⟩
    · exact .inl q
    · exact .inr ⟨i2, b2, x2, q1, .inl (by rcases q2 with q2 | q2 <;> omega), q3, q4⟩
  nod := B.nod
  len := B.len
end
/-! ### few pairs -/
theorem nodup_few : ∀ (m : Nat) (l : List Nat), l.Nodup → (∀ x ∈ l, x < m) → l.length ≤ m
  | 0, [], _, _ => Nat.le_refl _
  | 0, x :: _, _, h => absurd (h x List.mem_cons_self) (Nat.not_lt_zero _)
  | m + 1, l, hn, h => by
    have ih := nodup_few m (l.erase m) (hn.erase m) fun x hx => by
      have h1 := (List.Nodup.mem_erase_iff hn).mp hx
      have h2 := h x h1.2
      have h3 := h1.1
      omega
    have e := List.length_erase (a := m) (l := l)
    split at e <;> omega
theorem Bfs.few {M N : Mach} {st : Pr} {L : List Nd} {pl a : Nat} (k : Kin M N) (B : Bfs M N st L pl a) : L.length ≤ 900 := by
  have h := nodup_few 900 (L.map fun x => x.pr.1.toNat * 30 + x.pr.2.toNat) ?_ ?_
  · rw [List.length_map] at h
    exact h
  · have e : L.map (fun x => x.pr.1.toNat * 30 + x.pr.2.toNat) = (L.map (·.pr)).map fun p : Pr => p.1.toNat * 30 + p.2.toNat := by
      rw [List.map_map]
      rfl
    rw [e]
    refine List.Pairwise.map _ ?_ (List.Pairwise.and_mem.mp B.nod)
    rintro p q ⟨hp, hq, n⟩ z
    obtain ⟨x, hx, rfl⟩ := List.mem_map.mp hp
    obtain ⟨y, hy, rfl⟩ := List.mem_map.mp hq
    have i1 := (B.run x hx).2.2
    have i2 := (B.run y hy).2.2
    have := k.gn.s30
    have a1 := i1.1.1
    have a2 := i1.2.1
    have a3 := i1.2.2
    have b1 := i2.1.1
    have b2 := i2.2.1
    have b3 := i2.2.2
    exact n (Prod.ext (by omega) (by omega))
  · intro v hv
    obtain ⟨x, hx, rfl⟩ := List.mem_map.mp hv
    have i1 := (B.run x hx).2.2
    have := k.gn.s30
    have := k.gm.s30
    have a1 := i1.1.1
    have a4 := i1.1.2
    have a2 := i1.2.1
    have a3 := i1.2.2
    show x.pr.1.toNat * 30 + x.pr.2.toNat < 900
    omega
end Mz
namespace Mz
theorem part_or {M N : Mach} {p : Pr} : (∃ u, Part M N p u) ∨ NoPart M N p := by
  by_cases h : NoPart M N p
  · exact .inr h
  · refine .inl ?_
    have key : ∀ n : Nat, (∃ v, Lt M.ls v ∧ Bad M N (runP M N p v) ∧ code v ≤ n) → ∃ u, Part M N p u := by
      intro n
      induction n with
      | zero =>
        rintro ⟨v, h1, h2, h3⟩
        exact ⟨v, h1, h2, fun u _ _ => by omega⟩
      | succ n ih =>
        rintro ⟨v, h1, h2, h3⟩
        by_cases c : ∃ u, Lt M.ls u ∧ Bad M N (runP M N p u) ∧ code u ≤ n
        · exact ih c
        · exact ⟨v, h1, h2, fun u a b => Nat.le_of_not_lt fun z => c ⟨u, a, b, by omega⟩⟩
    have : ∃ v, Lt M.ls v ∧ Bad M N (runP M N p v) := Classical.byContradiction fun z => h fun v a b => z ⟨v, a, b⟩
    obtain ⟨v, a, b⟩ := this
    exact key _ ⟨v, a, b, Nat.le_refl _⟩
end Mz

set_option Elab.async false
set_option linter.all false
set_option maxRecDepth 100000
set_option maxHeartbeats 4000000
/-! a walk over a tuple while an error is handled -/
namespace Mz
open PySem PySem.Spec PyProof.Rows L2 L2H HotX
theorem next_tuple_end_hot {prog : Program} {w : World} {A : Around} {E : Value → Shared → Prop} {s : Shared} {it t x1 : Addr} {i : Nat} {items : Array Value} {Q : Option Value → Shared → Prop} (hot : HotAt A x1 s.heap)
    (hit : s.heap.IsTupleIter it t i) (ht : s.heap.IsTuple t items) (hx : items[i]? = none) (hQ : ∀ h', Heap.ExtBut it s.heap h' → Q none { s with heap := h' }) : wpAny (model prog w) A (pyNext (.ref it)) Q E s := by
  obtain ⟨o, ho, hc, hd⟩ := id hit
  obtain ⟨ol, hol, _, nl, hdl⟩ := ht
  obtain ⟨hh, o1, vs1, h1, d1, c1⟩ := hot
  have tT : s.TypeIs (.ref it) "tuple_iterator" := hit.typeIs
  unfold pyNext
  refine wpAny_bind (wpAny_attempt (wpAny_callSpecial?_slot (name := Str.ofString "__next__") tT F.slot_tuple_iterator_next (wpAny_call_entry F.slot_tuple_iterator_next tT F.entry_tuple_iterator_next ?_ (F.args_tuple_iterator_next_1 _))))
  show wpAny _ _ (field (.ref it) 0 >>= fun v => _) _ _ s
  refine wpAny_bind (wpAny_field ho hd (x := .ref t) rfl ?_)
  show wpAny _ _ (ite ((Value.ref t == Value.none) = true) _ _) _ _ s
  rw [if_neg (fun z : (Value.ref t == Value.none) = true => Bool.false_ne_true z)]
  show wpAny _ _ (field (.ref it) 1 >>= fun v => _) _ _ s
  refine wpAny_bind (wpAny_field ho hd (x := .int i 0) rfl ?_)
  show wpAny _ _ (seqItems? (.ref t) >>= fun v => _) _ _ s
  refine wpAny_bind (wpAny_seqItems hol hdl ?_)
  simp only [Int.toNat_natCast, hx]
  have apart : x1 ≠ it := fun z => by
    rw [z, ho] at h1
    cases h1
    rw [hd] at d1
    injection d1 with d1
    rw [← d1] at c1
    cases c1
  refine wpAny_bind (wpAny_rule (wpAny_bind (wpAny_setField ho hd (by simp) ?_)))
  show wpAny _ _ ((newExc (.type "StopIteration") []) >>= fun v => _) _ _ _
  refine wpAny_bind ?_
  simp only [newExc, newTuple]
  refine wpAny_bind (wpAny_newObj_type ?_ (by size_fits))
  refine wpAny_bind (m := firstArgMember _ _) (wpAny_of_eq (a := Value.none) (by first | rfl | (simp only [firstArgMember] <;> rfl)) ?_)
  refine wpAny_newObj_type ?_ (by size_fits)
  have h1b : (s.heap.update it (Obj.mapFields (·.setIfInBounds 0 Value.none))).get? x1 = some o1 := by
    rw [Heap.get?_update_other _ _ (fun z => apart z.symm)]
    exact h1
  refine raiseNew_hot ⟨hh, o1, vs1, Heap.get?_push_of_some _ (Heap.get?_push_of_some _ h1b), d1, c1⟩ (Nat.ne_of_lt (Heap.lt_size (Heap.get?_push_of_some _ h1b)))
    (Heap.get?_push_size _ rfl) rfl (by first | (simp; done) | (simp; omega) | (simp only [Array.size_append]; simp; omega)) ?_
  refine wpAny_bind (wpAny_isInstance (T := "StopIteration") (b := true) ⟨_, (Heap.get?_update_self _ (Heap.get?_push_size _ rfl) rfl), rfl⟩ isSubtype_stop ?_)
  refine wpAny_pure (hQ _ fun b u nb e => ?_)
  have e1 : (s.heap.update it (Obj.mapFields (·.setIfInBounds 0 Value.none))).get? b = some u := by
    rw [Heap.get?_update_other _ _ (fun z => nb z.symm)]
    exact e
  rw [Heap.get?_update_other _ _ (fun z => Nat.lt_irrefl _ (show _ < _ by have := Heap.lt_size (Heap.get?_push_of_some { cls := Value.type "tuple", data := Data.seq #[] } e1); rw [← z] at this; exact this))]
  exact Heap.get?_push_of_some _ (Heap.get?_push_of_some _ e1)
theorem turn_tupleH {P : Program} {w : World} {K : PySem.W.Frag} {tg : Expr} (a it : Addr) : TurnH P w K tg (Itt K a) [it] it (fun i h => h.IsTupleIter it a i) where
  mem := List.mem_singleton.mpr rfl
  obj := fun i h ⟨o, e, c, d⟩ b hb => by
    rw [List.mem_singleton.mp hb]
    exact ⟨o, e, fun v z => by rw [d] at z; cases z⟩
  keep := fun i h h' st k => st.at fun o e => k it (List.mem_singleton.mpr rfl) o e
  item := by
    rintro X rfl rfl rfl hc i pins s σ H E I hf st ⟨xs, x, hq, hx⟩
    obtain ⟨its, rv, p, _⟩ := I.tuple hq
    obtain ⟨u, hu, ru⟩ := rv.get hx
    obtain ⟨f0, f1, f2, f3, f4, f5⟩ := hf it (List.mem_singleton.mpr rfl)
    have tp : s.heap.IsTuple a its.toArray := p
    refine wpAny_pyNext_tuple_item st tp (x := u) (by simpa using hu) fun h' st' sb => ?_
    have J : Inv X pins σ H { s with heap := h' } := I.turned (t' := s.toks) (fun b o hb e => (sb.2 b hb).trans e) f0 f1 f3 f4 f5
    obtain ⟨o, e, c, d⟩ := id st'
    refine ⟨u, rfl, go_of (s := { s with heap := h' }) e c d (by decide) ⟨x, H, J, ru, ⟨rfl, fun ys hy => ?_⟩, st', fun b hb => (hf b hb).1⟩⟩
    rw [I.tuple_inj hy hq]
    exact hx
  done := by
    rintro X rfl rfl rfl hc i pins s σ H E I hf st ⟨xs, hq, hx⟩
    obtain ⟨its, rv, p, _⟩ := I.tuple hq
    obtain ⟨f0, f1, f2, f3, f4, f5⟩ := hf it (List.mem_singleton.mpr rfl)
    have hl := rv.length
    obtain ⟨x1, hot⟩ := hc.at I
    have tp : s.heap.IsTuple a its.toArray := p
    exact next_tuple_end_hot hot st tp (by simp; omega) fun h' eb => ⟨rfl, I.turned (t' := s.toks) (fun b o hb e => eb b o hb e) f0 f1 f3 f4 f5⟩
  self := fun _ _ _ _ _ st h => wpAny_pyIter_tupleiter st h
theorem pi_tupH {X : Cx} {tg l : Expr} {tl : TE} (hl : PE X l tl) : PIH X tg l (iTup X.K tl) := by
  refine ⟨fun pins s σ H R I h => thn (hl.run pins s σ H _ I h) fun v s1 ⟨x, H1, I1, r1, a, e, ⟨xs, hq⟩, q⟩ => ?_⟩
  subst e
  cases r1
  obtain ⟨its, rv, p, _⟩ := I1.tuple hq
  have tp : s1.heap.IsTuple a its.toArray := p
  refine wpAny_pyIter_tuple tp ⟨s1.heap.objs.size, [s1.heap.objs.size], _, _, H1, rfl, I1.kept (t' := s1.toks) (fun b o e => Heap.get?_push_of_some _ e), turn_tupleH a _, ⟨_, Heap.get?_push_size _ rfl, rfl, rfl⟩, fun b hb => ?_, q⟩
  rw [List.mem_singleton.mp hb]
  exact I1.fpOk (Nat.le_refl _) (I1.hok.fresh (Nat.le_refl _))
end Mz

set_option Elab.async false
set_option linter.all false
set_option maxRecDepth 100000
set_option maxHeartbeats 4000000
/-! the order of words: (len(u), u) < (len(v), v) -/
namespace Mz
open PySem PySem.Spec PyProof.Rows L2
def rLtD (K : PySem.W.Frag) : R2 := fun x y H Q => ∃ d e, Dp K H x d ∧ Dp K H y e ∧ W.alike d e = true ∧ d ≠ .none ∧ min d.depth e.depth ≤ 64 ∧ Q (.bl (W.dataLt d e)) H
theorem op_ltD {X : Cx} (hu : X.A.units + 64 < cLine) : OpR X (compareOp .Lt) (rLtD X.K) := by
  rintro pins s σ H x y v u Q I rx ry ⟨d, e, hd, he, al, hn, dep, q⟩
  obtain ⟨as, r1⟩ := Dp.reads I d x v hd rx
  obtain ⟨bs, r2⟩ := Dp.reads I e y u he ry
  exact W.rcLt_alike d e X.A s v u as bs r1 r2 al hn (by omega) X.prog X.w _ _ ⟨.bl _, H, I, rfl, q⟩
def wordD (ns : List Int) : PyData := .tuple [.int ns.length, .list (ns.map PyData.int)]
theorem alike_ints : ∀ ns ms : List Int, W.alikeAll (ns.map PyData.int) (ms.map PyData.int) = true
  | [], _ => by simp [W.alikeAll]
  | _ :: _, [] => by simp [W.alikeAll]
  | n :: ns, m :: ms => by
    simp only [List.map_cons, W.alikeAll, W.alike, Bool.true_and]
    exact alike_ints ns ms
theorem alike_word (ns ms : List Int) : W.alike (wordD ns) (wordD ms) = true := by
  simp only [wordD, W.alike, W.alikeAll, alike_ints, Bool.and_true]
theorem dp_ints {K : PySem.W.Frag} {H : Hp} : ∀ ns : List Int, DpAll K H (ns.map V.int) (ns.map PyData.int)
  | [] => .nil
  | n :: ns => .cons (.int n) (dp_ints ns)
end Mz
namespace Mz
open PySem PySem.Spec PyProof.Rows L2
theorem depth_ints : ∀ ns : List Int, PyData.depthAll (ns.map PyData.int) ≤ 1
  | [] => by simp [PyData.depthAll]
  | n :: ns => by
    have := depth_ints ns
    simp [PyData.depthAll, PyData.depth]
    omega
theorem depth_word (ns ms : List Int) : min (wordD ns).depth (wordD ms).depth ≤ 64 := by
  have h := depth_ints ns
  have e : (wordD ns).depth ≤ 5 := by
    simp [wordD, PyData.depth, PyData.depthAll]
    omega
  omega
/-- u comes before v -/
def wordLt (u v : List Int) : Bool := if u.length = v.length then HT.lexLt u v else decide (u.length < v.length)
theorem lex_eq {x : Int ⊕ List Nat} {r t : List (Int ⊕ List Nat)} : PyProof.Rows.lexLt itemOrd (x :: r) (x :: t) = PyProof.Rows.lexLt itemOrd r t := PySem.W.lex_pre [x] r t
theorem lex_self (l : List (Int ⊕ List Nat)) : PyProof.Rows.lexLt itemOrd l l = false := by
  have := PySem.W.lex_pre l [] []
  rw [List.append_nil] at this
  rw [this]
  rfl
theorem lex_ints : ∀ (ns ms : List Int) (l : List (Int ⊕ List Nat)), ns.length = ms.length → PyProof.Rows.lexLt itemOrd (PySem.W.keyToksAll (ns.map PyData.int) ++ l) (PySem.W.keyToksAll (ms.map PyData.int) ++ l) = HT.lexLt ns ms
  | [], [], l, _ => by
    rw [lex_self]
    rfl
  | [], _ :: _, _, h => by simp at h
  | _ :: _, [], _, h => by simp at h
  | n :: ns, m :: ms, l, h => by
    have ih := lex_ints ns ms l (by simpa using h)
    rw [List.map_cons, List.map_cons, PySem.W.toks_all_cons, PySem.W.toks_all_cons]
    simp only [PySem.W.keyToks, List.cons_append, List.nil_append]
    rw [lex_eq, HT.lexLt_cons]
    by_cases e : n = m
    · subst e
      rw [lex_eq, ih, if_pos rfl]
    · rw [lex_diff (by simpa using e), if_neg e]
      rfl
theorem dataLt_word (ns ms : List Int) : PySem.W.dataLt (wordD ns) (wordD ms) = wordLt ns ms := by
  unfold PySem.W.dataLt wordD wordLt
  simp only [PySem.W.keyToks, PySem.W.keyToksAll, List.cons_append, List.nil_append]
  rw [lex_eq]
  by_cases e : ns.length = ms.length
  · rw [if_pos e, e, lex_eq, lex_eq]
    exact lex_ints ns ms _ e
  · rw [if_neg e, lex_diff (by simpa using fun z => e (by omega))]
    show decide _ = decide _
    rw [decide_eq_decide]
    omega
end Mz

set_option Elab.async false
set_option linter.all false
set_option maxRecDepth 100000
set_option maxHeartbeats 4000000
/-! errors whose context is None; defs with a table of code objects; what stays beside a table -/
namespace Mz
open PySem PySem.Spec PyProof.Rows L2 L2H
theorem takesN {X : Cx} : L2N.Takes X (fun _ _ _ _ => False) := fun _ _ ⟨_, _, _, _, _, _, _, _, _, _, _, _, _, _, _, _, z⟩ => z.elim
theorem passN {X : Cx} : Passes (L2N.CX X.prog X.w) X E0 := fun _ _ _ _ _ _ _ ⟨_, _, _, _, _, _, _, _, _, _, _, _, z⟩ => z.elim
section
variable {X : Cx} {C : Addr} {bmB : List Value} {B newId initId : String}
/-- X(e, ..) for an own error class -/
theorem pmk_any {x : Str} {p pos : Pos} {e : Expr} {es : List Expr} {t : TA} (F : ExcBaseFacts B newId initId bmB) (q : PySem.W.excIn X.K C bmB newId = true) (gC : X.mg x = some (.ref C))
    (kC : PySem.W.keepIn X.K (.ref C) = true) (r : Raises X (.ref C)) (hg : Gl X x) (ha : PA X (e :: es) t) (hdb : (x == ("__debug__" : Str)) = false := by decide)
    (he : starEach (e :: es) X.env = (false, eval e X.env) :: starEach es X.env := by rfl) (hpl : (backTo pos (starEach es X.env)).any (·.1) = false := by rfl) :
    L2N.PMk X (.Call (.Name x p) (e :: es) [] pos) (fun σ H Q => t σ H fun vs H1 => vs.length ≤ sizeLine ∧ Q (.ref C) none H1) := by
  intro pins s σ H Q I h
  refine wpAny_Call_Name_kw (ld_glob I hg gC (PySem.W.callWith_K (h₀ := X.base) I.ok.mod.kin kC (thn (ha.run pos pins s σ H _ I h) fun us s1 ⟨vs, H1, I1, r1, hz, q1⟩ => ⟨I1.kIn, ?_⟩) he hpl) hdb)
  show wpAny _ _ (call (.ref C) us) _ _ _
  obtain ⟨bm, N, nm, qn, bs, hdct, sn, sub, ab, col, dd, k0, k1, k2, k3, k5, mN, hC, hN, hni, T⟩ := exc_obj I1.kIn q
  exact wpAny_call_exc_subT F T hC hN hni (fun h' e hm => L2N.mk_of I1 hm r q1 (I1.hok.gone hm.new)) (by rw [← r1.length]; exact hz)
end
section
variable {P : Program} {w : World} {K : PySem.W.Frag} {mg : Str → Option Value} {base : Heap}
/-- a def that may raise -/
theorem okN {x qual : Str} {st : Stmt} {f : Addr} {fd : FuncData} {N ps : List Str} {k : Nat} {sp : Sp} (F : Fun K x qual st f fd) (S : FnScope N ps (defScope st)) (len : ∀ vs H Q E, sp vs H Q E → vs.length = ps.length)
    (hbody : ∀ (cdv : Value) (A : Around) (outer : List Env) (s : Shared) (H : Hp) (vs : List V) (Q : VK) (E : XK), Room k (A.deeper (envOfC qual (defScope st) s.heap.objs.size f cdv)) → sp vs H Q E →
      ∃ t, PSs (cxOf (L2N.CX P w) P w K mg base N qual (defScope st) f cdv A outer s H E) (defBody st) t ∧ t { nx := fun _ H' => Q .non H', rt := Q } (start N vs) H) : FnOk P w K mg base (L2N.CX P w) (k + 1) f fd ps sp := by
  obtain ⟨oc, od, kV, doc, pm, an, cdv, ct, osl, rfl, lk, hcd⟩ := F.ex
  exact fn_of lk hcd S len fun A outer s H vs Q E hr hsp => hbody cdv A outer s H vs Q E hr hsp
/-- a def whose code object is known -/
theorem okC {x qual : Str} {st : Stmt} {f : Addr} {fd : FuncData} {N ps : List Str} {k : Nat} {sp : Sp} (F : Fun K x qual st f fd) (S : FnScope N ps (defScope st)) (len : ∀ vs H Q E, sp vs H Q E → vs.length = ps.length)
    (hbody : ∀ (A : Around) (outer : List Env) (s : Shared) (H : Hp) (vs : List V) (Q : VK) (E : XK), Room k (A.deeper (envOfC qual (defScope st) s.heap.objs.size f fd.code)) → sp vs H Q E →
      ∃ t, PSs (cxOf CX0 P w K mg base N qual (defScope st) f fd.code A outer s H E).nox (defBody st) t ∧ t { nx := fun _ H' => Q .non H', rt := Q } (start N vs) H) : FnOk P w K mg base CX0 (k + 1) f fd ps sp := by
  obtain ⟨oc, od, kV, doc, pm, an, cdv, ct, osl, rfl, lk, hcd⟩ := F.ex
  refine fn_of lk hcd S len fun A outer s H vs Q E hr hsp => ?_
  obtain ⟨t, h, q⟩ := hbody A outer s H vs Q E hr hsp
  exact ⟨t, h.nox, q⟩
/-- a def called while an error is handled -/
theorem okH {x qual : Str} {st : Stmt} {f : Addr} {fd : FuncData} {N ps : List Str} {k : Nat} {sp : Sp} (F : Fun K x qual st f fd) (S : FnScope N ps (defScope st)) (len : ∀ vs H Q E, sp vs H Q E → vs.length = ps.length)
    (hbody : ∀ (cdv : Value) (A : Around) (outer : List Env) (s : Shared) (H : Hp) (vs : List V) (Q : VK) (E : XK) (p : Addr × Obj), Hot1 A p → RoomH k (A.deeper (envOfC qual (defScope st) s.heap.objs.size f cdv)) → sp vs H Q E →
      ∃ t, PSs (cxH CX0 P w K mg base N qual (defScope st) f cdv A outer s H E p) (defBody st) t ∧ t { nx := fun _ H' => Q .non H', rt := Q } (start N vs) H) : FnH P w K mg base CX0 (k + 1) f fd ps sp := by
  obtain ⟨oc, od, kV, doc, pm, an, cdv, ct, osl, rfl, lk, hcd⟩ := F.ex
  exact fn_ofH lk hcd S len fun A outer s H vs Q E p hot hr hsp => hbody cdv A outer s H vs Q E p hot hr hsp
end
theorem hot_suite {X : Cx} {a : Addr} {oe : Obj} {pn : List (Addr × Obj)} {cls : Value} {d : Option Addr} (hz : L2N.Zn cls d oe) (hf : ∃ vs, oe.data = .fields vs) : HotC (X.suite a ((a, oe) :: pn)) := by
  obtain ⟨vs, e⟩ := hf
  exact ⟨(a, oe), ⟨rfl, vs, e, hz.2.2 vs e⟩, List.mem_cons_self⟩
/-! ### what stays as it was, but for the table at P -/
structure Kp (P : Addr) (H H' : Hp) : Prop where
  tab : GxR.TabG H' P
  keep : ∀ b o, b ≠ P → H b = some o → H' b = some o
theorem tab_ne {H : Hp} {P b : Addr} {o : HO} (t : GxR.TabG H P) (e : H b = some o) (h : ∀ ps, o ≠ .tbl ps) : b ≠ P := fun z => by
  obtain ⟨ps, hP, _⟩ := t
  rw [z, hP] at e
  exact h ps (Option.some.inj e).symm
theorem Kp.of {P : Addr} {H H' : Hp} (t : GxR.TabG H P) (s : Same H H') : Kp P H H' := by
  obtain ⟨ps, hP, ht⟩ := t
  exact ⟨⟨ps, s _ _ hP, ht⟩, fun b o _ e => s b o e⟩
theorem Kp.refl {P : Addr} {H : Hp} (t : GxR.TabG H P) : Kp P H H := ⟨t, fun _ _ _ e => e⟩
theorem Kp.trans {P : Addr} {H H1 H2 : Hp} (a : Kp P H H1) (b : Kp P H1 H2) : Kp P H H2 := ⟨b.tab, fun c o n e => b.keep c o n (a.keep c o n e)⟩
theorem Kp.andS {P : Addr} {H H1 H2 : Hp} (a : Kp P H H1) (b : Same H1 H2) : Kp P H H2 := a.trans (.of a.tab b)
theorem Kp.ofTabbed {P : Addr} {H H' : Hp} (t : GxR.Tabbed P H H') : Kp P H H' := ⟨t.1, fun b o n e => by rw [t.2 b n]; exact e⟩
theorem Kp.free {P : Addr} {H H' : Hp} (k : Kp P H H') {b : Addr} (e : H' b = none) : H b = none := by
  cases q : H b with
  | none => rfl
  | some o =>
    have n : b ≠ P := fun z => by
      obtain ⟨ps, hP, _⟩ := k.tab
      rw [z, hP] at e
      cases e
    rw [k.keep b o n q] at e
    cases e
theorem Kp.seq {P : Addr} {H H' : Hp} {K : PySem.W.Frag} {a : Addr} {xs : List V} (t : GxR.TabG H P) (k : Kp P H H') (h : SqL K H a xs) : SqL K H' a xs := by
  rcases h with (h | ⟨o, h⟩) | h
  · exact .inl (.inl (k.keep _ _ (tab_ne t h (fun ps z => by cases z)) h))
  · exact .inl (.inr ⟨o, k.keep _ _ (tab_ne t h (fun ps z => by cases z)) h⟩)
  · exact .inr h
theorem Kp.tup {P : Addr} {H H' : Hp} {a : Addr} {xs : List V} (t : GxR.TabG H P) (k : Kp P H H') (h : H a = some (.tup xs)) : H' a = some (.tup xs) := k.keep _ _ (tab_ne t h (fun ps z => by cases z)) h
theorem Kp.lst {P : Addr} {H H' : Hp} {a : Addr} {xs : List V} (t : GxR.TabG H P) (k : Kp P H H') (h : H a = some (.lst xs)) : H' a = some (.lst xs) := k.keep _ _ (tab_ne t h (fun ps z => by cases z)) h
theorem Kp.mat {P : Addr} {H H' : Hp} {m mv ou : Addr} {M : Mach} {rs : List Addr} (t : GxR.TabG H P) (k : Kp P H H') (h : MAt H m M mv ou rs) : MAt H' m M mv ou rs :=
  ⟨k.tup t h.top, k.tup t h.mv, k.tup t h.ou, h.len, fun i r w a b => k.tup t (h.row i r w a b)⟩
theorem Kp.ma {P : Addr} {H H' : Hp} {m : Addr} {M : Mach} (t : GxR.TabG H P) (k : Kp P H H') (h : MA H m M) : MA H' m M := by
  obtain ⟨mv, ou, rs, h⟩ := h
  exact ⟨mv, ou, rs, k.mat t h⟩
/-- a list or a tuple of ints -/
def Ints (K : PySem.W.Frag) (H : Hp) (a : Addr) (ns : List Int) : Prop := SqL K H a (ns.map V.int) ∨ SqT K H a (ns.map V.int)
def belowB (ns : List Int) (L : Int) : Bool := ns.all fun n => decide (0 ≤ n) && decide (n < L)
theorem below_iff {ns : List Int} {L : Int} : belowB ns L = true ↔ Lt L ns := by
  unfold belowB Lt
  rw [List.all_eq_true]
  constructor
  · intro h z hz
    have := h z hz
    simpa using this
  · intro h z hz
    simpa using h z hz
end Mz
namespace Mz
open PySem PySem.Spec PyProof.Rows L2
/-! ### f'..': its length, part by part -/
theorem js_str {z : Str} {ts : List TE} {acc : Str} {σ : L2.St} {H : Hp} {Q : Str → Hp → Prop} {n : Nat} (ha : acc.length ≤ n) (hz : z.length ≤ 100) (hn : n ≤ 1000000) (k : (acc ++ z).length ≤ n + 100 → tJs ts (acc ++ z) σ H Q) :
    tJs (tC (.str z) :: ts) acc σ H Q := by
  have e : (acc ++ z).length ≤ n + 100 := by
    rw [PySem.Str.length_append]
    omega
  refine ⟨z, rfl, ?_, k e⟩
  rw [sizeLine_eq]
  omega
theorem js_int {te : TE} {ts : List TE} {acc : Str} {σ : L2.St} {H : Hp} {Q : Str → Hp → Prop} {n : Nat} (ha : acc.length ≤ n) (hn : n ≤ 1000000)
    (k : te σ H fun x H1 => ∃ i : Int, x = .int i ∧ i.natAbs.log2 < 1920 ∧ ((acc ++ Str.ofString (toString i)).length ≤ n + 1921 → tJs ts (acc ++ Str.ofString (toString i)) σ H1 Q)) (mono : ∀ {Q1 Q2 : VK}, (∀ x H1, Q1 x H1 → Q2 x H1) → te σ H Q1 → te σ H Q2) :
    tJs (tFmt te :: ts) acc σ H Q := by
  refine mono (fun x H1 ⟨i, e, hi, q⟩ => ?_) k
  have l := int_text_len_1921 hi
  have e2 : (acc ++ Str.ofString (toString i)).length ≤ n + 1921 := by
    rw [PySem.Str.length_append]
    omega
  refine .inr ⟨i, e, hi, _, rfl, ?_, q e2⟩
  rw [sizeLine_eq]
  show (acc ++ Str.ofString (toString i)).length ≤ _
  omega
theorem log_small {i : Int} (h : i.natAbs < 2 ^ 64) : i.natAbs.log2 < 1920 := by
  by_cases h0 : i.natAbs = 0
  · rw [h0]
    decide
  · have := (Nat.log2_lt h0).mpr h
    omega
end Mz

set_option Elab.async false
set_option linter.all false
set_option maxRecDepth 100000
set_option maxHeartbeats 4000000
/-! isinstance: the error in hand against a builtin class; small facts of builtin classes -/
namespace Mz
open PySem PySem.Spec PyProof.Rows L2
def rIsXV (K : PySem.W.Frag) (a : Addr) (cls : Value) (d : Option Addr) : List V → Hp → VK → Prop := fun xs H Q =>
  ∃ (D : Addr) (c : V) (u : Value) (b : Bool), cls = .ref D ∧ d = none ∧ ExcC K D ∧ xs = [.ref a, c] ∧ ClsV c u ∧ PySem.W.kitOne K (.ref D) u = some b ∧ Q (.bl b) H
theorem call_isXV {X : Cx} {a : Addr} {cls : Value} {d : Option Addr} {oe : Obj} {pn : List (Addr × Obj)} (hz : Zc cls d oe) (hf : ∃ vs, oe.data = .fields vs) :
    CallR (X.suite a ((a, oe) :: pn)) (.builtin "isinstance") (rIsXV X.K a cls d) := by
  rintro pins s σ H xs us Q I r ⟨D, c, u, b, rfl, rfl, ec, rfl, k, hk, q⟩
  exact call_isE ec hz hf pins s σ H _ us Q I r ⟨c, u, b, rfl, fun w r => k.eq r, hk, q⟩
theorem kit_ty {K : PySem.W.Frag} {D : Addr} {n : String} {b : Bool} (h : PySem.W.subIn K (.ref D) (.type n) = some b) (hm : PySem.W.kitMeta n = true := by decide +kernel) : PySem.W.kitOne K (.ref D) (.type n) = some b := by
  unfold PySem.W.kitOne
  rw [if_neg (by exact fun z => nomatch (beq_iff_eq.mp z : Value.ref D = Value.type n))]
  show (if PySem.W.kitMeta n = true then PySem.W.subIn K (.ref D) (.type n) else none) = some b
  rw [if_pos hm]
  exact h
/-- isinstance of an int, a bool, a list -/
theorem kit_ints {K : PySem.W.Frag} : PySem.W.kitOne K (.type "int") (.type "int") = some true := if_pos (beq_self_eq_true _)
theorem kit_bools {K : PySem.W.Frag} : PySem.W.kitOne K (.type "bool") (.type "bool") = some true := if_pos (beq_self_eq_true _)
theorem kit_lists {K : PySem.W.Frag} : PySem.W.kitOne K (.type "list") (.type "list") = some true := if_pos (beq_self_eq_true _)
theorem kit_int_bool {K : PySem.W.Frag} : PySem.W.kitOne K (.type "int") (.type "bool") = some false := by
  unfold PySem.W.kitOne
  rw [if_neg (by decide)]
  show (if PySem.W.kitMeta "bool" = true then PySem.W.subIn K (.type "int") (.type "bool") else none) = some false
  rw [if_pos (by decide +kernel)]
  show (fastBuiltinMro "int").map (·.contains (Value.type "bool")) = some false
  decide +kernel
end Mz

set_option Elab.async false
set_option linter.all false
set_option maxRecDepth 100000
set_option maxHeartbeats 4000000
/-! a machine under change: a list of lists and a list, all new -/
namespace Mz
open PySem PySem.Spec PyProof.Rows L2
theorem ps_weak {X : Cx} {st : Stmt} {t t' : TS} (h : PS X st t) (k : ∀ D σ H, t' D σ H → t D σ H) : PS X st t' := ⟨fun pins s σ H D I q => h.run pins s σ H D I (k D σ H q)⟩
theorem blkOk_at {N N' : List Str} {sc sc' scope : Scope} {own : List (Str × Nat)} (h : BlkOk N sc scope own) (h1 : N = N') (h2 : sc = sc') : BlkOk N' sc' scope own := by
  subst h1 h2
  exact h
def rLof (K : PySem.W.Frag) : List V → Hp → VK → Prop := fun xs H Q => ∃ p ys, xs = [.ref p] ∧ (SqL K H p ys ∨ SqT K H p ys) ∧ ∀ l, H l = none → Q (.ref l) (upd H l (.lst ys))
theorem call_lof {X : Cx} : CallR X (.type "list") (rLof X.K) := call_list_of
def rTof (K : PySem.W.Frag) : List V → Hp → VK → Prop := fun xs H Q => ∃ p ys, xs = [.ref p] ∧ ((SqL K H p ys ∧ ∀ l, H l = none → Q (.ref l) (upd H l (.tup ys))) ∨ (SqT K H p ys ∧ Q (.ref p) H))
theorem call_tof {X : Cx} : CallR X (.type "tuple") (rTof X.K) := call_tuple_of
structure Mut (H H' : Hp) (mvl oul : Addr) (rs : List Addr) (os : List Int) : Prop where
  same : Same H H'
  fm : H mvl = none
  fo : H oul = none
  ne : mvl ≠ oul
  mv : H' mvl = some (.lst (rs.map V.ref))
  ou : H' oul = some (.lst (os.map V.int))
  row : ∀ r ∈ rs, H r = none ∧ r ≠ mvl ∧ r ≠ oul ∧ ∃ w : List Int, w.length ≤ 5 ∧ H' r = some (.lst (w.map V.int))
  rl : rs.length ≤ 31
  ol : os.length ≤ 31
section
variable {H H' H2 : Hp} {mvl oul : Addr} {rs : List Addr} {os : List Int}
theorem Mut.on (m : Mut H H' mvl oul rs os) (s : Same H' H2) : Mut H H2 mvl oul rs os :=
  ⟨m.same.trans s, m.fm, m.fo, m.ne, s _ _ m.mv, s _ _ m.ou, fun r hr => by
    obtain ⟨a, b, c, w, lw, e⟩ := m.row r hr
    exact ⟨a, b, c, w, lw, s _ _ e⟩, m.rl, m.ol⟩
theorem Mut.new (m : Mut H H' mvl oul rs os) {p : Addr} (hp : H' p = none) (o : HO) : Mut H (upd H' p o) mvl oul rs os := m.on (same_upd (Same.refl _) hp)
/-- a row's content -/
theorem Mut.setRow (m : Mut H H' mvl oul rs os) {r : Addr} (hr : r ∈ rs) {w : List Int} (lw : w.length ≤ 5) : Mut H (upd H' r (.lst (w.map V.int))) mvl oul rs os := by
  obtain ⟨a, b, c, _, _, _⟩ := m.row r hr
  refine ⟨same_set m.same a, m.fm, m.fo, m.ne, by rw [upd_ne b.symm]; exact m.mv, by rw [upd_ne c.symm]; exact m.ou, fun x hx => ?_, m.rl, m.ol⟩
  obtain ⟨a2, b2, c2, w2, l2, e2⟩ := m.row x hx
  refine ⟨a2, b2, c2, ?_⟩
  by_cases z : x = r
  · subst z
    exact ⟨w, lw, upd_same⟩
  · exact ⟨w2, l2, by rw [upd_ne z]; exact e2⟩
theorem Mut.setOut (m : Mut H H' mvl oul rs os) {os2 : List Int} (l : os2.length ≤ 31) : Mut H (upd H' oul (.lst (os2.map V.int))) mvl oul rs os2 := by
  refine ⟨same_set m.same m.fo, m.fm, m.fo, m.ne, by rw [upd_ne m.ne]; exact m.mv, upd_same, fun x hx => ?_, m.rl, l⟩
  obtain ⟨a2, b2, c2, w2, l2, e2⟩ := m.row x hx
  exact ⟨a2, b2, c2, w2, l2, by rw [upd_ne c2]; exact e2⟩
/-- the list of rows is another one -/
theorem Mut.setMv (m : Mut H H' mvl oul rs os) {rs2 : List Addr} (l : rs2.length ≤ 31) (hrs : ∀ r ∈ rs2, r ∈ rs ∨ (H r = none ∧ r ≠ mvl ∧ r ≠ oul ∧ ∃ w : List Int, w.length ≤ 5 ∧ H' r = some (.lst (w.map V.int)))) :
    Mut H (upd H' mvl (.lst (rs2.map V.ref))) mvl oul rs2 os := by
  refine ⟨same_set m.same m.fm, m.fm, m.fo, m.ne, upd_same, by rw [upd_ne m.ne.symm]; exact m.ou, fun x hx => ?_, l, m.ol⟩
  obtain ⟨a2, b2, c2, w2, l2, e2⟩ := (hrs x hx).elim (m.row x) id
  exact ⟨a2, b2, c2, w2, l2, by rw [upd_ne b2]; exact e2⟩
theorem ne_some {a b : Addr} {o : HO} (h : H' a = none) (e : H' b = some o) : b ≠ a := fun z => by
  rw [z, h] at e
  cases e
/-- a new list of outputs -/
theorem Mut.newOut (m : Mut H H' mvl oul rs os) {p : Addr} (hp : H' p = none) {os2 : List Int} (l : os2.length ≤ 31) : Mut H (upd H' p (.lst (os2.map V.int))) mvl p rs os2 := by
  have k := m.new hp (.lst (os2.map V.int))
  refine ⟨k.same, m.fm, m.same.free hp, ne_some hp m.mv, k.mv, upd_same, fun x hx => ?_, m.rl, l⟩
  obtain ⟨a2, b2, c2, w2, l2, e2⟩ := k.row x hx
  obtain ⟨_, _, _, w3, _, e3⟩ := m.row x hx
  exact ⟨a2, b2, ne_some hp e3, w2, l2, e2⟩
/-- a new list of rows -/
theorem Mut.newMv (m : Mut H H' mvl oul rs os) {p : Addr} (hp : H' p = none) {rs2 : List Addr} (l : rs2.length ≤ 31) (hrs : ∀ r ∈ rs2, r ∈ rs) : Mut H (upd H' p (.lst (rs2.map V.ref))) p oul rs2 os := by
  have k := m.new hp (.lst (rs2.map V.ref))
  refine ⟨k.same, m.same.free hp, m.fo, (ne_some hp m.ou).symm, upd_same, k.ou, fun x hx => ?_, l, m.ol⟩
  obtain ⟨a2, b2, c2, w2, l2, e2⟩ := k.row x (hrs x hx)
  obtain ⟨_, _, _, w3, _, e3⟩ := m.row x (hrs x hx)
  exact ⟨a2, ne_some hp e3, c2, w2, l2, e2⟩
end
end Mz

set_option Elab.async false
set_option linter.all false
set_option maxRecDepth 100000
set_option maxHeartbeats 4000000
/-! == and != of lists of ints -/
namespace Mz
open PySem PySem.Spec PyProof.Rows L2
theorem eqv_ints : ∀ ns ms : List Int, PyData.eqvAll (ns.map PyData.int) (ms.map PyData.int) = decide (ns = ms)
  | [], [] => by simp [PyData.eqvAll]
  | [], _ :: _ => by simp [PyData.eqvAll]
  | _ :: _, [] => by simp [PyData.eqvAll]
  | n :: ns, m :: ms => by
    rw [List.map_cons, List.map_cons, PyData.eqvAll, eqv_ints ns ms, PyData.eqv]
    by_cases h : n = m
    · subst h
      by_cases h2 : ns = ms <;> simp [h2]
    · simp [h]
theorem eqv_lists (ns ms : List Int) : PyData.eqv (.list (ns.map PyData.int)) (.list (ms.map PyData.int)) = decide (ns = ms) := by
  rw [PyData.eqv]
  exact eqv_ints ns ms
section
variable {K : PySem.W.Frag} {H : Hp} {a b : Addr} {ns ms : List Int} {Q : VK}
theorem eq_lists (h1 : SqL K H a (ns.map V.int)) (h2 : SqL K H b (ms.map V.int)) (q : Q (.bl (decide (ns = ms))) H) : rEqD K (.ref a) (.ref b) H Q :=
  ⟨_, _, .lst h1 (dp_ints ns), .lst h2 (dp_ints ms), PySem.W.shaped_ints ns, PySem.W.shaped_ints ms, by rw [eqv_lists]; exact q⟩
theorem ne_lists (h1 : SqL K H a (ns.map V.int)) (h2 : SqL K H b (ms.map V.int)) (q : Q (.bl (!decide (ns = ms))) H) : rNeD K (.ref a) (.ref b) H Q :=
  ⟨_, _, .lst h1 (dp_ints ns), .lst h2 (dp_ints ms), PySem.W.shaped_ints ns, PySem.W.shaped_ints ms, by rw [eqv_lists]; exact q⟩
end
end Mz

set_option Elab.async false
set_option linter.all false
set_option maxRecDepth 100000
set_option maxHeartbeats 4000000
/-! {k: v}, k a tuple -/
namespace Mz
open PySem PySem.Spec PyProof.Rows L2
def tDisp1T (tk tv : TE) : TE := fun σ H Q => ∀ p, H p = none → tk σ (upd H p (.dT [])) fun x H1 => tv σ H1 fun y H2 => ∃ (b : Addr) (k : List L2.Key), x = .ref b ∧ H2 b = some (.tup (k.map kV)) ∧ H2 p = some (.dT []) ∧ Q (.ref p) (upd H2 p (.dT [(k, y)]))
theorem pe_disp1T {X : Cx} {ke ve : Expr} {pos : Pos} {tk tv : TE} (hu : X.A.units + 1 < cLine) (hk : PE X ke tk) (hv : PE X ve tv) : PE X (.Dict [some ke] [ve] pos) (tDisp1T tk tv) := by
  refine ⟨fun pins s σ H Q I q => ?_⟩
  have hn := I.hok.fresh (Nat.le_refl s.heap.objs.size)
  have I1 := I.laid (a := s.heap.objs.size) (o := .dT []) (h' := s.heap.push { cls := .type "dict", data := .dict #[] }) (t' := s.toks) (fun _ _ q => Heap.get?_push_of_some _ q) (Nat.le_refl _) (dt_empty s.heap I.big)
  have hl : (pairTrees [some ke] [ve] X.env pos).length = 1 := pairTrees_length _ _ _ _ rfl rfl
  rw [arm_eval_Dict, zip_pairTrees [some ke] [ve] X.env pos rfl rfl, dictDisplay_pairs (pairTrees [some ke] [ve] X.env pos) (fun z => by rw [z] at hl; cases hl) (by omega)]
  refine wpAny_bind (wpAny_standAt (wpAny_bind (wpAny_subDictH (knd := tupleKind (mixKind X.prog X.w)) (Q := fun d s' => wpAny (model X.prog X.w) X.A (pure (Value.ref d)) (EP X pins σ Q) X.xe s') (show X.A.units < cLine by omega) (by omega) ?_)))
  refine pairTrees_cons_walk (thn (hk.run pins _ σ _ _ I1 (q _ hn)) fun u s1 ⟨x, H1, I2, rx, q1⟩ => thn (hv.run pins s1 σ H1 _ I2 q1) fun v s2 ⟨y, H2, I3, ry, b, k, ex, eb, ep, q2⟩ => ?_)
  subst ex
  obtain rfl : u = Value.ref b := rx
  obtain ⟨z, hd, xs, rel, dd⟩ := dt_of I3.hok ep
  cases rel
  refine pairTrees_nil_walk ⟨[(k, b, v)], ⟨rfl, rfl, key_of I3.hok eb, trivial⟩, dd, fun h' tk dd' hs => ?_⟩
  have e1 : storedAllH ([] : List (List L2.Key × Addr × Value)) [(k, b, v)] = [(k, b, v)] := rfl
  rw [e1] at dd'
  obtain ⟨o, es, ep2, hq, h2, h3, h4, _, h5⟩ := dd'
  refine wpAny_pure ⟨.ref s.heap.objs.size, _, d_write (t' := tk) (ob := .dT [(k, y)]) I3 (by rw [ep]; exact True.intro) hs ⟨o, hq⟩ ⟨?_, hd, [(k, b, v)], .cons ⟨rfl, ?_, ry⟩ .nil, o, es, ep2, hq, h2, h3, h4, h5⟩, rfl, q2⟩
  · rw [sizeLine_eq]
    show 1 ≤ _
    omega
  · have nb : b ≠ s.heap.objs.size := fun z => by
      rw [z, ep] at eb
      cases eb
    rw [upd_ne nb]
    exact eb
end Mz

set_option Elab.async false
set_option linter.all false
set_option maxRecDepth 100000
set_option maxHeartbeats 4000000
/-! the search by widths in the heap -/
namespace Mz
open PySem PySem.Spec PyProof.Rows L2
def kP (p : Pr) : List L2.Key := [.inl p.1, .inl p.2]
theorem kP_inj {p q : Pr} (h : kP p = kP q) : p = q := by
  unfold kP at h
  injection h with h1 h2
  injection h2 with h2 _
  injection h1 with h1
  injection h2 with h2
  exact Prod.ext h1 h2
def dictOf (L : List Nd) : List (List L2.Key × V) := L.map fun n => (kP n.pr, V.ref n.wa)
theorem val_find (p : Pr) : ∀ L : List Nd, (∃ n ∈ L, n.pr = p ∧ valV (dictOf L) (kP p) = some (.ref n.wa)) ∨ (valV (dictOf L) (kP p) = none ∧ ∀ n ∈ L, n.pr ≠ p)
  | [] => .inr ⟨rfl, fun n hn => absurd hn (by simp)⟩
  | n :: L => by
    by_cases h : n.pr = p
    · exact .inl ⟨n, List.mem_cons_self, h, valV_pos (p := (kP n.pr, V.ref n.wa)) (by rw [h])⟩
    · have e : valV (dictOf (n :: L)) (kP p) = valV (dictOf L) (kP p) := valV_neg (p := (kP n.pr, V.ref n.wa)) fun z => h (kP_inj z)
      rcases val_find p L with ⟨m, hm, h1, h2⟩ | ⟨h1, h2⟩
      · exact .inl ⟨m, List.mem_cons_of_mem _ hm, h1, by rw [e]; exact h2⟩
      · refine .inr ⟨by rw [e]; exact h1, fun m hm => ?_⟩
        rcases List.mem_cons.mp hm with z | z
        · rw [z]
          exact h
        · exact h2 m z
theorem nodup_inj {α β : Type} {f : α → β} : ∀ {L : List α}, (L.map f).Nodup → ∀ {x y : α}, x ∈ L → y ∈ L → f x = f y → x = y
  | [], _, _, _, hx, _, _ => absurd hx (by simp)
  | a :: L, h, x, y, hx, hy, e => by
    rw [List.map_cons, List.nodup_cons] at h
    rcases List.mem_cons.mp hx with hx | hx
    · rcases List.mem_cons.mp hy with hy | hy
      · rw [hx, hy]
      · rw [hx] at e
        exact absurd (List.mem_map.mpr ⟨y, hy, e.symm⟩) h.1
    · rcases List.mem_cons.mp hy with hy | hy
      · rw [hy] at e
        exact absurd (List.mem_map.mpr ⟨x, hx, e⟩) h.1
      · exact nodup_inj h.2 hx hy e
structure HB (H0 H' : Hp) (d qa : Addr) (L : List Nd) : Prop where
  same : Same H0 H'
  fd : H0 d = none
  fq : H0 qa = none
  dd : H' d = some (.dT (dictOf L))
  qq : H' qa = some (.lst (L.map fun n => V.ref n.ta))
  tp : ∀ n ∈ L, H' n.ta = some (.tup [.int n.pr.1, .int n.pr.2])
  wl : ∀ n ∈ L, H' n.wa = some (.lst (n.wd.map V.int)) ∧ n.wa ≠ qa
  wf : ∀ n ∈ L, H0 n.wa = none
section
variable {H0 H' H2 : Hp} {d qa : Addr} {L : List Nd}
theorem HB.on (B : HB H0 H' d qa L) (s : Same H' H2) : HB H0 H2 d qa L :=
  ⟨B.same.trans s, B.fd, B.fq, s _ _ B.dd, s _ _ B.qq, fun n hn => s _ _ (B.tp n hn), fun n hn => ⟨s _ _ (B.wl n hn).1, (B.wl n hn).2⟩, B.wf⟩
theorem HB.new (B : HB H0 H' d qa L) {p : Addr} (hp : H' p = none) (o : HO) : HB H0 (upd H' p o) d qa L := B.on (same_upd (Same.refl _) hp)
/-- a pair with its word goes into the dict, then into the queue -/
theorem HB.push (B : HB H0 H' d qa L) {n : Nd} (ht : H' n.ta = some (.tup [.int n.pr.1, .int n.pr.2])) (hw : H' n.wa = some (.lst (n.wd.map V.int))) (nq : n.wa ≠ qa) (nf : H0 n.wa = none) :
    HB H0 (upd (upd H' d (.dT (dictOf L ++ [(kP n.pr, .ref n.wa)]))) qa (.lst (L.map (fun n => V.ref n.ta) ++ [.ref n.ta]))) d qa (L ++ [n]) := by
  have dq : d ≠ qa := fun z => by
    have h1 := B.dd
    rw [z, B.qq] at h1
    cases h1
  have kt : ∀ {b : Addr} {xs : List V}, H' b = some (.tup xs) → upd (upd H' d (.dT (dictOf L ++ [(kP n.pr, .ref n.wa)]))) qa (.lst (L.map (fun n => V.ref n.ta) ++ [.ref n.ta])) b = some (.tup xs) := fun {b xs} e => by
    have b1 : b ≠ d := fun z => by
      rw [z, B.dd] at e
      cases e
    have b2 : b ≠ qa := fun z => by
      rw [z, B.qq] at e
      cases e
    rw [upd_ne b2, upd_ne b1]
    exact e
  have kl : ∀ {b : Addr} {xs : List V}, H' b = some (.lst xs) → b ≠ qa → upd (upd H' d (.dT (dictOf L ++ [(kP n.pr, .ref n.wa)]))) qa (.lst (L.map (fun n => V.ref n.ta) ++ [.ref n.ta])) b = some (.lst xs) := fun {b xs} e b2 => by
    have b1 : b ≠ d := fun z => by
      rw [z, B.dd] at e
      cases e
    rw [upd_ne b2, upd_ne b1]
    exact e
  refine ⟨same_set (same_set B.same B.fd) B.fq, B.fd, B.fq, ?_, ?_, fun m hm => ?_, fun m hm => ?_, fun m hm => ?_⟩
  · rw [upd_ne dq, upd_same]
    unfold dictOf
    rw [List.map_append]
    rfl
  · rw [upd_same, List.map_append]
    rfl
  · rcases List.mem_append.mp hm with e | e
    · exact kt (B.tp m e)
    · rw [List.mem_singleton.mp e]
      exact kt ht
  · rcases List.mem_append.mp hm with e | e
    · exact ⟨kl (B.wl m e).1 (B.wl m e).2, (B.wl m e).2⟩
    · rw [List.mem_singleton.mp e]
      exact ⟨kl hw nq, nq⟩
  · rcases List.mem_append.mp hm with e | e
    · exact B.wf m e
    · rw [List.mem_singleton.mp e]
      exact nf
end
end Mz

set_option Elab.async false
set_option linter.all false
set_option maxRecDepth 100000
set_option maxHeartbeats 4000000
/-! walks over lists, range with two bounds and comprehensions while an error is handled -/
namespace Mz
open PySem PySem.Spec PyProof.Rows L2 L2H HotX
theorem next_list_end_hot {prog : Program} {w : World} {A : Around} {E : Value → Shared → Prop} {s : Shared} {it t x1 : Addr} {i : Nat} {items : Array Value} {Q : Option Value → Shared → Prop} (hot : HotAt A x1 s.heap)
    (hit : s.heap.IsListIter it t i) (ht : s.heap.IsList t items) (hx : items[i]? = none) (hQ : ∀ h', Heap.ExtBut it s.heap h' → Q none { s with heap := h' }) : wpAny (model prog w) A (pyNext (.ref it)) Q E s := by
  obtain ⟨o, ho, hc, hd⟩ := id hit
  obtain ⟨ol, hol, _, nl, hdl⟩ := ht
  obtain ⟨hh, o1, vs1, h1, d1, c1⟩ := hot
  have tT : s.TypeIs (.ref it) "list_iterator" := hit.typeIs
  unfold pyNext
  refine wpAny_bind (wpAny_attempt (wpAny_callSpecial?_slot (name := Str.ofString "__next__") tT slot_listiter_next (wpAny_call_entry slot_listiter_next tT entry_listiter_next ?_ (args_listiter_next _))))
  show wpAny _ _ (field (.ref it) 0 >>= fun v => _) _ _ s
  refine wpAny_bind (wpAny_field ho hd (x := .ref t) rfl ?_)
  show wpAny _ _ (ite ((Value.ref t == Value.none) = true) _ _) _ _ s
  rw [if_neg (fun z : (Value.ref t == Value.none) = true => Bool.false_ne_true z)]
  show wpAny _ _ (field (.ref it) 1 >>= fun v => _) _ _ s
  refine wpAny_bind (wpAny_field ho hd (x := .int i 0) rfl ?_)
  show wpAny _ _ (seqItems? (.ref t) >>= fun v => _) _ _ s
  refine wpAny_bind (wpAny_seqItems hol hdl ?_)
  simp only [Int.toNat_natCast, hx]
  have apart : x1 ≠ it := fun z => by
    rw [z, ho] at h1
    cases h1
    rw [hd] at d1
    injection d1 with d1
    rw [← d1] at c1
    cases c1
  refine wpAny_bind (wpAny_rule (wpAny_bind (wpAny_setField ho hd (by simp) ?_)))
  show wpAny _ _ ((newExc (.type "StopIteration") []) >>= fun v => _) _ _ _
  refine wpAny_bind ?_
  simp only [newExc, newTuple]
  refine wpAny_bind (wpAny_newObj_type ?_ (by size_fits))
  refine wpAny_bind (m := firstArgMember _ _) (wpAny_of_eq (a := Value.none) (by first | rfl | (simp only [firstArgMember] <;> rfl)) ?_)
  refine wpAny_newObj_type ?_ (by size_fits)
  have h1b : (s.heap.update it (Obj.mapFields (·.setIfInBounds 0 Value.none))).get? x1 = some o1 := by
    rw [Heap.get?_update_other _ _ (fun z => apart z.symm)]
    exact h1
  refine raiseNew_hot ⟨hh, o1, vs1, Heap.get?_push_of_some _ (Heap.get?_push_of_some _ h1b), d1, c1⟩ (Nat.ne_of_lt (Heap.lt_size (Heap.get?_push_of_some _ h1b)))
    (Heap.get?_push_size _ rfl) rfl (by first | (simp; done) | (simp; omega) | (simp only [Array.size_append]; simp; omega)) ?_
  refine wpAny_bind (wpAny_isInstance (T := "StopIteration") (b := true) ⟨_, (Heap.get?_update_self _ (Heap.get?_push_size _ rfl) rfl), rfl⟩ isSubtype_stop ?_)
  refine wpAny_pure (hQ _ fun b u nb e => ?_)
  have e1 : (s.heap.update it (Obj.mapFields (·.setIfInBounds 0 Value.none))).get? b = some u := by
    rw [Heap.get?_update_other _ _ (fun z => nb z.symm)]
    exact e
  rw [Heap.get?_update_other _ _ (fun z => Nat.lt_irrefl _ (show _ < _ by have := Heap.lt_size (Heap.get?_push_of_some { cls := Value.type "tuple", data := Data.seq #[] } e1); rw [← z] at this; exact this))]
  exact Heap.get?_push_of_some _ (Heap.get?_push_of_some _ e1)
theorem turn_listH {P : Program} {w : World} {K : PySem.W.Frag} {tg : Expr} (a it : Addr) : TurnH P w K tg (Itl K a) [it] it (fun i h => h.IsListIter it a i) where
  mem := List.mem_singleton.mpr rfl
  obj := fun i h ⟨o, e, c, d⟩ b hb => by
    rw [List.mem_singleton.mp hb]
    exact ⟨o, e, fun v z => by rw [d] at z; cases z⟩
  keep := fun i h h' st k => st.at fun o e => k it (List.mem_singleton.mpr rfl) o e
  item := by
    rintro X rfl rfl rfl hc i pins s σ H E I hf st ⟨xs, x, hq, hx⟩
    obtain ⟨its, rv, p, _⟩ := I.list hq
    obtain ⟨u, hu, ru⟩ := rv.get hx
    obtain ⟨f0, f1, f2, f3, f4, f5⟩ := hf it (List.mem_singleton.mpr rfl)
    have tp : s.heap.IsList a its.toArray := p.isList
    refine wpAny_pyNext_list_item st tp (x := u) (by simpa using hu) fun h' st' sb => ?_
    have J : Inv X pins σ H { s with heap := h' } := I.turned (t' := s.toks) (fun b o hb e => (sb.2 b hb).trans e) f0 f1 f3 f4 f5
    obtain ⟨o, e, c, d⟩ := id st'
    refine ⟨u, rfl, go_of (s := { s with heap := h' }) e c d (by decide) ⟨x, H, J, ru, ⟨rfl, fun ys hy => ?_⟩, st', fun b hb => (hf b hb).1⟩⟩
    rw [I.list_inj hy hq]
    exact hx
  done := by
    rintro X rfl rfl rfl hc i pins s σ H E I hf st ⟨xs, hq, hx⟩
    obtain ⟨its, rv, p, _⟩ := I.list hq
    obtain ⟨f0, f1, f2, f3, f4, f5⟩ := hf it (List.mem_singleton.mpr rfl)
    have hl := rv.length
    obtain ⟨x1, hot⟩ := hc.at I
    have tp : s.heap.IsList a its.toArray := p.isList
    exact next_list_end_hot hot st tp (by simp; omega) fun h' eb => ⟨rfl, I.turned (t' := s.toks) (fun b o hb e => eb b o hb e) f0 f1 f3 f4 f5⟩
  self := fun _ _ _ _ _ st h => wpAny_pyIter_listiter st h
theorem pi_listH {X : Cx} {tg l : Expr} {tl : TE} (hl : PE X l tl) : PIH X tg l (iList X.K tl) := by
  refine ⟨fun pins s σ H R I h => thn (hl.run pins s σ H _ I h) fun v s1 ⟨x, H1, I1, r1, a, e, ⟨xs, hq⟩, q⟩ => ?_⟩
  subst e
  cases r1
  obtain ⟨its, rv, p, _⟩ := I1.list hq
  have tp : s1.heap.IsList a its.toArray := p.isList
  refine wpAny_pyIter_list tp ⟨s1.heap.objs.size, [s1.heap.objs.size], _, _, H1, rfl, I1.kept (t' := s1.toks) (fun b o e => Heap.get?_push_of_some _ e), turn_listH a _, ⟨_, Heap.get?_push_size _ rfl, rfl, rfl⟩, fun b hb => ?_, q⟩
  rw [List.mem_singleton.mp hb]
  exact I1.fpOk (Nat.le_refl _) (I1.hok.fresh (Nat.le_refl _))
section
variable {X : Cx} {tg : Expr}
theorem pi_range2H {a b : Expr} {ta : TA} {p pos : Pos} (hg : Gl X "range") (hm : X.mg "range" = none) (ha : PA X [a, b] ta) (h1 : starEach [a, b] X.env = [(false, eval a X.env), (false, eval b X.env)] := by rfl) (h2 : starEach [b] X.env = [(false, eval b X.env)] := by rfl) :
    PIH X tg (.Call (.Name "range" p) [a, b] [] pos) (iRng2 ta) := by
  refine ⟨fun pins s σ H R I h => Call_ (ld_blt I hg hm boot_range (PyProof.Rows.callWith_type1 (thn (ha.run pos pins s σ H _ I h) fun us s1 ⟨vs, H1, I1, r1, q1⟩ => ?_) (by rw [h1, h2]) (by rw [h2]; rfl)))⟩
  obtain ⟨i, j, rfl, ⟨q1, q2, q3, q4⟩, q⟩ := q1
  cases r1 with
  | cons ra rr =>
    cases rr with
    | cons rb rn =>
      cases rn
      obtain ⟨_, rfl⟩ := ra
      obtain ⟨_, rfl⟩ := rb
      exact call_range_2 (range_itH I1 q1 q2 q3 q4 q)
end
/-! ### a comprehension while an error is handled: its block keeps that error's object as a pin -/
section
variable {X : Cx} {p : Addr × Obj}
/-- a pin moved between the context and the state's own -/
theorem inv_toPn {B : Cx} {σ : L2.St} {H : Hp} {s : Shared} (hb : B.pn = []) (I : Inv B [p] σ H s) : Inv { B with pn := [p] } [] σ H s :=
  ⟨⟨I.ok.mod, I.ok.kind, I.ok.glob, I.ok.blt, I.ok.above, I.ok.inj, I.ok.has, I.ok.cab, I.ok.hd, I.ok.frames, I.ok.stk, I.ok.exf, I.ok.bs, I.ok.bsz, I.ok.noex, I.ok.exfs, I.ok.funs, I.ok.frf⟩, I.os, I.bare, I.base, I.loc, I.cell, I.free, I.freeC,
    fun q hq => I.pin q (by rw [hb]; simpa using hq), I.hok, I.len⟩
theorem inv_fromPn {B : Cx} {σ : L2.St} {H : Hp} {s : Shared} (hb : B.pn = []) (I : Inv { B with pn := [p] } [] σ H s) : Inv B [p] σ H s :=
  ⟨⟨I.ok.mod, I.ok.kind, I.ok.glob, I.ok.blt, I.ok.above, I.ok.inj, I.ok.has, I.ok.cab, I.ok.hd, I.ok.frames, I.ok.stk, I.ok.exf, I.ok.bs, I.ok.bsz, I.ok.noex, I.ok.exfs, I.ok.funs, I.ok.frf⟩, I.os, I.bare, I.base, I.loc, I.cell, I.free, I.freeC,
    fun q hq => I.pin q (by rw [hb] at hq; simpa using hq), I.hok, I.len⟩
theorem fp_toPn {B : Cx} {H : Hp} {b : Addr} (hb : B.pn = []) (h : FpOk B [p] H b) : FpOk { B with pn := [p] } [] H b :=
  ⟨h.1, h.2.1, h.2.2.1, h.2.2.2.1, h.2.2.2.2.1, fun q hq => h.2.2.2.2.2 q (by rw [hb]; simpa using hq)⟩
variable {B : Cx} {tg : Expr} {J : It} {fp : List Addr} {it : Addr} {tn : Nat → Heap → Prop} {i : Nat} {s : Shared} {σ : L2.St} {H : Hp} {E : Value → Shared → Prop}
theorem hot_done (T : TurnH B.prog B.w B.K tg J fp it tn) (hb : B.pn = []) (h1 : Hot1 B.A p) (I : Inv B [p] σ H s) (hf : ∀ b ∈ fp, FpOk B [p] H b) (st : tn i s.heap) (h : J.stop i H) :
    wpAny (model B.prog B.w) B.A (pyNext (.ref it)) (fun r s1 => r = none ∧ Inv B [p] σ H s1) E s :=
  thn (T.done { B with pn := [p] } rfl rfl rfl ⟨p, h1, List.mem_cons_self⟩ i [] s σ H E (inv_toPn hb I) (fun b hbm => fp_toPn hb (hf b hbm)) st h) fun _ _ ⟨a, b⟩ => ⟨a, inv_fromPn hb b⟩
theorem hot_item (T : TurnH B.prog B.w B.K tg J fp it tn) (hb : B.pn = []) (h1 : Hot1 B.A p) (I : Inv B [p] σ H s) (hf : ∀ b ∈ fp, FpOk B [p] H b) (st : tn i s.heap) (h : J.go i H) :
    wpAny (model B.prog B.w) B.A (pyNext (.ref it)) (fun r s1 => ∃ u, r = some u ∧
      wpAny (model B.prog B.w) B.A (letOwnedTupleGo tg (.ref it) u) (fun _ s2 => ∃ x H', Inv B [p] σ H' s2 ∧ RelV x u ∧ J.yld i H x H' ∧ tn (i + 1) s2.heap ∧ ∀ b ∈ fp, H' b = none) E s1) E s :=
  thn (T.item { B with pn := [p] } rfl rfl rfl ⟨p, h1, List.mem_cons_self⟩ i [] s σ H E (inv_toPn hb I) (fun b hbm => fp_toPn hb (hf b hbm)) st h) fun _ _ ⟨u, a, b⟩ => ⟨u, a, thn b fun _ _ ⟨x, H', c, d⟩ => ⟨x, H', inv_fromPn hb c, d⟩⟩
end
section
variable {X : Cx}
/-- [elt for tg in iter if ..] -/
theorem pe_lcH {elt tg iter : Expr} {ifs : List Expr} {scope : Scope} {own : List (Str × Nat)} {pos : Pos} {wi : TI} {g : TG} {tt : TT} {te : TE} (hc : HotC X) (hN : X.N.Nodup) (hi : PIH X tg iter wi) (ok : BlkOk X.N X.env.scope scope own)
    (hg : ∀ (s : Shared) (H : Hp) (C : Addr) (cl : List (Str × Addr)) (fp : List Addr), PG (X.blk s H scope (compEnvC scope cl C X.env) fp) tg g) (ht : ∀ (s : Shared) (H : Hp) (C : Addr) (cl : List (Str × Addr)) (fp : List Addr), PTs (X.blk s H scope (compEnvC scope cl C X.env) fp) ifs tt)
    (he : ∀ (s : Shared) (H : Hp) (C : Addr) (cl : List (Str × Addr)) (fp : List Addr), PE (X.blk s H scope (compEnvC scope cl C X.env) fp) elt te) (hs : ∀ x, foldedSetIterable iter X.env x = pure x := by intro _; rfl) :
    PE X (.ListComp elt [⟨tg, iter, ifs, 0⟩] scope pos) (tLc wi g tt te (own.map (·.2))) := by
  refine ⟨fun pins s σ H Q I h => ?_⟩
  obtain ⟨p, hot, hp⟩ := hc
  have fr : ∀ y ∈ scope.names, y.2 = .free → ∃ c, X.env.cells.lookup y.1 = some c := fun y hy e => (ok.free y hy e).elim (fun k => I.ok.has _ (.inl k)) (fun k => I.ok.has _ (.inr k))
  rw [eval_ListComp]
  refine wpAny_comprehension_free (use := none) rfl hs (closure_ok fr) ok.kind (fun y hy e => by rw [ok.uniq y hy, e]) (thn (hi.run pins s σ H _ I h) fun _ _ hx => thn hx fun itv s2 h2 => ?_)
  obtain ⟨it, fp, tn, J, H2, rfl, I2, T, st2, f2, q⟩ := h2
  refine wpAny_newObj_type (newEnv_comp ?_) (by show 0 ≤ sizeLine; decide)
  generalize eD : s2.heap.objs.size = D
  obtain ⟨W, ⟨m0, w0⟩, turn⟩ := q D (I2.hok.fresh (Nat.le_of_eq eD))
  generalize e3 : ({ s2 with heap := s2.heap.push { cls := .type "list", data := .seq ([] : List Value).toArray } } : Shared) = s3
  have hp3 : s3.heap = s2.heap.push { cls := .type "list", data := .seq ([] : List Value).toArray } := by rw [← e3]
  have I3 : Inv X pins σ (upd H2 D (.lst [])) s3 := by
    subst e3
    exact I2.laid (t' := s2.toks) (fun b o e => Heap.get?_push_of_some _ e) (Nat.le_of_eq eD) ⟨Nat.zero_le _, [], 0, .nil, by rw [← eD]; exact Heap.get?_push_size _ rfl⟩
  have below : ∀ b ∈ fp, b < s2.heap.objs.size := fun b hb => let ⟨_, e, _⟩ := T.obj _ _ st2 b hb; Heap.lt_size e
  have f3 : ∀ b ∈ fp, FpOk X pins (upd H2 D (.lst [])) b ∧ b < s3.heap.objs.size := fun b hb =>
    ⟨⟨(upd_ne (by rw [← eD]; exact Nat.ne_of_lt (below b hb))).trans (f2 b hb).1, (f2 b hb).2⟩, by rw [hp3, Heap.size_push]; exact Nat.lt_succ_of_lt (below b hb)⟩
  have st3 : tn 0 s3.heap := T.keep _ _ _ st2 fun b _ o e => by rw [hp3]; exact Heap.get?_push_of_some _ e
  have B0 := block_start I3 ok hN f3
  -- the error's object, as a pin of the block
  have pin3 := I3.pin p (List.mem_append_left _ hp)
  have pinB : s3.heap.get? p.1 = some p.2 ∧ p.1 ∉ frs X.stack := by
    refine ⟨pin3.1, ?_⟩
    rcases I3.ok.stk with e | ⟨e, e2⟩
    · rw [e]
      exact pin3.2.2.2.1
    · rw [e]
      intro z
      unfold frs at z
      rw [List.filterMap_cons, e2] at z
      rcases List.mem_cons.mp z with z | z
      · exact pin3.2.2.1 z
      · exact pin3.2.2.2.1 z
  generalize ecl : cellsFrom (s3.heap.objs.size + 1) scope.names (cloFrom X.env.cells scope.names []) = cl at B0
  have pg := hg s3 (upd H2 D (.lst [])) s3.heap.objs.size cl fp
  have pt := ht s3 (upd H2 D (.lst [])) s3.heap.objs.size cl fp
  have pe := he s3 (upd H2 D (.lst [])) s3.heap.objs.size cl fp
  show codeAny _ _ (.compStart (.ListComp elt [⟨tg, iter, ifs, 0⟩] scope pos) 0 (.ref it) (.ref D) (compEnvC scope cl s3.heap.objs.size X.env)) (compPost (model X.prog X.w) X.A X.xe none (EP X pins σ Q) (.ref D) s3.heap.objs.size) { s3 with heap := pushCells (s3.heap.push { cls := .type "dict", data := .dict #[] }) scope.names }
  have fB : ∀ b ∈ fp, (upd H2 D (.lst [])) b = none := fun b hb => (f3 b hb).1.1
  generalize eH : upd H2 D (.lst []) = H3 at *
  generalize ec : compEnvC scope cl s3.heap.objs.size X.env = ce at *
  have cL : ce.locals = s3.heap.objs.size := by subst ec; rfl
  generalize e4 : ({ s3 with heap := pushCells (s3.heap.push { cls := .type "dict", data := .dict #[] }) scope.names } : Shared) = s4 at *
  have kp4 : ∀ b o, s3.heap.get? b = some o → s4.heap.get? b = some o := fun b o e => by rw [← e4]; exact pushCells_keeps _ _ _ _ (Heap.get?_push_of_some _ e)
  have I4 : Inv (X.blk s3 H3 scope ce fp) [p] (wipe σ (own.map (·.2))) H3 s4 := B0.pins_of fun q hq => by
    rw [List.mem_singleton.mp hq]
    exact ⟨kp4 _ _ pinB.1, pin3.2.1, by show p.1 ≠ ce.locals; rw [cL]; exact Nat.ne_of_lt (Heap.lt_size pinB.1), pinB.2, pin3.2.2.2.2⟩
  have st4 : tn 0 s4.heap := T.keep _ _ _ st3 fun b _ o e => kp4 b o e
  have apart : ∀ b ∈ fp, p.1 ≠ b := fun b hb => (f3 b hb).1.2.2.2.2.2 p (List.mem_append_left _ hp)
  have still : ∀ {σ' : L2.St} {H' : Hp} {s' : Shared}, Inv (X.blk s3 H3 scope ce fp) [p] σ' H' s' → (∀ b ∈ fp, H' b = none) → ∀ b ∈ fp, FpOk (X.blk s3 H3 scope ce fp) [p] H' b := fun I' hn b hb =>
    ⟨hn b hb, (I'.ok.exf b hb).1, I'.ok.exfs b hb, .inl hb, (I'.ok.exf b hb).2, fun q hq => by rw [List.mem_singleton.mp (show q ∈ [p] from hq)]; exact apart b hb⟩
  have loop : codeAny (model X.prog X.w) X.A (.compLoop (.ListComp elt [⟨tg, iter, ifs, 0⟩] scope pos) 0 (.ref it) (.ref D) ce) (compPost (model X.prog X.w) X.A X.xe none (EP X pins σ Q) (.ref D) s3.heap.objs.size) s4 := by
    refine compLoop_any (fun n s' => ∃ i H', Inv (X.blk s3 H3 scope ce fp) [p] (wipe σ (own.map (·.2))) H' s' ∧ tn i s'.heap ∧ (∀ b ∈ fp, H' b = none) ∧ W i n H') ?_ m0 ⟨0, H3, I4, st4, fB, w0⟩
    rintro n s5 ⟨i, H5, I5, st5, n5, w5⟩
    rcases turn i n H5 w5 with ⟨stop, qq⟩ | ⟨go, Nx, hNx, step⟩
    · refine thnF (hot_done (B := X.blk s3 H3 scope ce fp) (E := fun _ _ => False) T rfl hot I5 (still I5 n5) st5 stop) fun r s6 ⟨hr, I6⟩ => ?_
      subst hr
      have I7 : Inv X pins σ H5 s6 := I3.call' (ch := fp) I6.os I6.base I6.hok I6.bare fun b hb => ⟨(f3 b hb).1.2.2.2.1, (f3 b hb).1.2.1, (f3 b hb).1.2.2.2.2.1, (f3 b hb).1.2.2.2.2.2⟩
      have nC : H5 s3.heap.objs.size = none := by
        rw [← cL]
        exact I6.free
      obtain ⟨m, hn, _⟩ := I6.loc
      refine ⟨m, by rw [← cL]; exact hn, fun h'' sb => ?_⟩
      obtain ⟨g0, g1, g2, g3, g4, g5⟩ := I3.fpOk (H' := H5) (Nat.le_refl _) nC
      exact ⟨.ref D, H5, I7.turned (t' := s6.toks) (fun b o hb e => (sb.2 b hb).trans e) g0 g1 g3 g4 g5, rfl, qq⟩
    · refine thnF (hot_item (B := X.blk s3 H3 scope ce fp) (E := fun _ _ => False) T rfl hot I5 (still I5 n5) st5 go) fun r s6 ⟨u, hr, h6⟩ => ?_
      subst hr
      refine thnF h6 fun _ s7 ⟨x, H7, I7, r7, y7, st7, n7⟩ => ?_
      refine thnF (pg.run _ s7 _ H7 x u _ (I7.pinned (still I7 n7) (T.obj _ _ st7)) r7 (step x H7 y7)) fun _ s8 ⟨σ8, H8, I8, hw8, q8⟩ => ?_
      refine thnF (pt.run _ s8 σ8 H8 _ I8 q8) fun b s9 ⟨H9, I9, q9⟩ => ?_
      have next : ∀ {s' : Shared} {H' : Hp}, Inv (X.blk s3 H3 scope ce fp) ([p] ++ pinsAt fp s7.heap) σ8 H' s' → Nx H' → ∃ m, m < n ∧ ∃ i H', Inv (X.blk s3 H3 scope ce fp) [p] (wipe σ (own.map (·.2))) H' s' ∧ tn i s'.heap ∧ (∀ b ∈ fp, H' b = none) ∧ W i m H' := fun {s' H'} I' nx => by
        obtain ⟨m', hm, w'⟩ := hNx H' nx
        have at7 : ∀ b ∈ fp, ∀ o, s7.heap.get? b = some o → s'.heap.get? b = some o ∧ H' b = none := fun b hb o e =>
          have z := I'.pin (b, o) (List.mem_append_right _ (List.mem_append_right _ (mem_pinsAt hb e)))
          ⟨z.1, z.2.1⟩
        refine ⟨m', hm, i + 1, H', (I'.unpinned (pins := [p])).weak (by rw [← hw8, wipe_length]) (fun j v e => (wipe_some (hw8 ▸ e)).1), T.keep _ _ _ st7 fun b hb o e => (at7 b hb o e).1, fun b hb => ?_, w'⟩
        obtain ⟨o, e, _⟩ := T.obj _ _ st7 b hb
        exact (at7 b hb o e).2
      cases b with
      | false => exact next I9 q9
      | true =>
        refine thnF (pe.run _ s9 σ8 H9 _ I9 q9) fun z s10 ⟨yv, H10, I10, r10, acc, hD, hz, nx⟩ => ?_
        exact app_ok (X := X.blk s3 H3 scope ce fp) I10 hD hz r10 fun s11 I11 => next I11 nx
  exact codeAny_compStart_list loop (T.self X.A 0 _ _ _ st4 loop)
end
end Mz

set_option Elab.async false
set_option linter.all false
set_option maxRecDepth 100000
set_option maxHeartbeats 4000000
/-! dicts whose keys are tuples: a comprehension that makes one, del -/
namespace Mz
open PySem PySem.Spec PyProof.Rows L2
/-- one more key in a dict under work -/
theorem dset_T {X : Cx} {pins : List (Addr × Obj)} {σ : L2.St} {H : Hp} {s : Shared} {E : Value → Shared → Prop} {D b : Addr} {kvs : List (List L2.Key × V)} {k : List L2.Key} {v : V} {u r : Value} {Q : Unit → Shared → Prop} (hu : X.A.units + 1 < cLine) (I : Inv X pins σ H s)
    (hD : H D = some (.dT kvs)) (hb : H b = some (.tup (k.map kV))) (hz : kvs.length < sizeLine) (ry : RelV (.ref b) u) (rv : RelV v r) (h : ∀ s', Inv X pins σ (upd H D (.dT (putK kvs k v))) s' → Q () s') : wpAny (model X.prog X.w) X.A (dictSet D u r) Q E s := by
  obtain rfl : u = Value.ref b := ry
  obtain ⟨_, nsys, ls, rel, dd⟩ := dt_of I.hok hD
  have few : ls.length ≤ sizeLine := by
    have := Paired.length rel
    omega
  have few2 : (putK kvs k v).length ≤ sizeLine := by
    have := length_putK kvs k v
    omega
  have key := key_of I.hok hb
  unfold dictSet
  have room : (tupleKind (mixKind X.prog X.w)).room X.A := show X.A.units < cLine by omega
  refine wpAny_holding (wpAny_bind ((tupleKind (mixKind X.prog X.w)).pyHash room key ?_))
  refine wpAny_dictSetHashed_heap (knd := tupleKind (mixKind X.prog X.w)) (hsz := few) room key dd fun h' dd' hs => h _ ?_
  obtain ⟨o, es, ep, ho, h2, h3, h4, _, h5⟩ := dd'
  refine d_write (I.tok _) (by rw [hD]; exact True.intro) hs ⟨o, ho⟩ ⟨few2, nsys, _, (rel.put k hb rv).keeps fun c ys ec => ?_, o, es, ep, ho, h2, h3, h4, h5⟩
  rw [upd_ne (ne_of ec hD (fun z => nomatch z))]
  exact ec
/-- del d[k] -/
def sDelT (td ty : TE) : TS := fun D σ H => td σ H fun x H1 => ty σ H1 fun y H2 => ∃ a b kvs k v, x = .ref a ∧ H2 a = some (.dT kvs) ∧ y = .ref b ∧ H2 b = some (.tup (k.map kV)) ∧ valV kvs k = some v ∧ D.nx σ (upd H2 a (.dT (dropK kvs k)))
theorem ps_delT {X : Cx} {o i : Expr} {pos tpos : Pos} {td ty : TE} (hu : X.A.units + 1 < cLine) (ho : PE X o td) (hi : PE X i ty) : PS X (.Delete [.Subscript o i tpos] pos) (sDelT td ty) := by
  refine ⟨fun pins s σ H D I h => ?_⟩
  refine wpAny_Delete (wpAny_deleteEach_cons (wpAny_delete_Subscript (thn (ho.run pins s σ H _ I h) fun u s1 ⟨x, H1, I1, rx, q1⟩ => thn (hi.run pins s1 σ H1 _ I1 q1) fun v s2 ⟨y, H2, I2, ry, a, b, kvs, k, v0, ex, ha, ey, hb, hv, q2⟩ => ?_)))
  subst ex ey
  obtain rfl : u = Value.ref a := rx
  obtain rfl : v = Value.ref b := ry
  obtain ⟨z, nsys, ls, rel, dd⟩ := dt_of I2.hok ha
  have few : ls.length ≤ sizeLine := by
    have := Paired.length rel
    omega
  refine wpAny_delItem_slot dd.typeIs (by decide) PySem.F.slot_dict_delitem (call_meetsIn PySem.F.slot_dict_delitem dd.typeIs PySem.F.entry_dict_delitem (PySem.F.args_dict_delitem_2 _ _) (meetsH_dict_delitem (tupleKind (mixKind X.prog X.w)) a b nsys)
    ⟨tupleKind_room_in1 hu, k, ls, key_of I2.hok hb, dd, few, fun p hp h' dd' hs => ?_, fun hn => ?_⟩)
  · obtain ⟨o, es, ep, hq, h2, h3, h4, _, h5⟩ := dd'
    have I3 := d_write (t' := s2.toks + (tupleKind (mixKind X.prog X.w)).draws k) (ob := .dT (dropK kvs k)) (I2.tok _) (by rw [ha]; exact True.intro) hs ⟨o, hq⟩ ⟨Nat.le_trans (dropK_le kvs k) z, nsys, _, (L2.DX.KT_drop k rel).keeps (fun c ys ec => (by rw [upd_ne (ne_of ec ha (fun z => nomatch z))]; exact ec)), o, es, ep, hq, h2, h3, h4, h5⟩
    exact wpAny_deleteEach_nil ⟨σ, _, I3, q2⟩
  · have r := rel.val k
    rw [hv, hn] at r
    exact (show False from r).elim
/-- {k: v for target in iter if ..}, the keys tuples: D the new dict -/
def tDcT (wi : TI) (g : TG) (tt : TT) (tk tv : TE) (ns : List Nat) : TE := fun σ H Q => wi σ H fun J H1 => ∀ D, H1 D = none →
  ∃ W : Nat → Nat → Hp → Prop, (∃ m, W 0 m (upd H1 D (.dT []))) ∧ ∀ i m H, W i m H →
    (J.stop i H ∧ Q (.ref D) H) ∨
    (J.go i H ∧ ∃ Nx : Hp → Prop, (∀ H', Nx H' → ∃ m', m' < m ∧ W (i + 1) m' H') ∧
      ∀ x H', J.yld i H x H' → g x (wipe σ ns) H' fun σ2 H2 => wipe σ2 ns = wipe σ ns ∧
        tt σ2 H2 fun c H3 => if c = true then (tk σ2 H3 fun y H4 => tv σ2 H4 fun z H5 => ∃ kvs k b, y = .ref b ∧ H5 b = some (.tup (k.map kV)) ∧ H5 D = some (.dT kvs) ∧ kvs.length < sizeLine ∧ Nx (upd H5 D (.dT (putK kvs k z)))) else Nx H3)
section
variable {X : Cx}
theorem pe_dcT {kx vx tg iter : Expr} {ifs : List Expr} {scope : Scope} {own : List (Str × Nat)} {pos : Pos} {wi : TI} {g : TG} {tt : TT} {tk tv : TE} (hu : X.A.units + 1 < cLine) (hc : X.calm = true) (hN : X.N.Nodup) (hi : PI X tg iter wi) (ok : BlkOk X.N X.env.scope scope own)
    (hg : ∀ (s : Shared) (H : Hp) (C : Addr) (cl : List (Str × Addr)) (fp : List Addr), PG (X.blk s H scope (compEnvC scope cl C X.env) fp) tg g) (ht : ∀ (s : Shared) (H : Hp) (C : Addr) (cl : List (Str × Addr)) (fp : List Addr), PTs (X.blk s H scope (compEnvC scope cl C X.env) fp) ifs tt)
    (hk : ∀ (s : Shared) (H : Hp) (C : Addr) (cl : List (Str × Addr)) (fp : List Addr), PE (X.blk s H scope (compEnvC scope cl C X.env) fp) kx tk) (he : ∀ (s : Shared) (H : Hp) (C : Addr) (cl : List (Str × Addr)) (fp : List Addr), PE (X.blk s H scope (compEnvC scope cl C X.env) fp) vx tv) (hs : ∀ x, foldedSetIterable iter X.env x = pure x := by intro _; rfl) :
    PE X (.DictComp kx vx [⟨tg, iter, ifs, 0⟩] scope pos) (tDcT wi g tt tk tv (own.map (·.2))) := by
  refine ⟨fun pins s σ H Q I h => ?_⟩
  have fr : ∀ y ∈ scope.names, y.2 = .free → ∃ c, X.env.cells.lookup y.1 = some c := fun y hy e => (ok.free y hy e).elim (fun k => I.ok.has _ (.inl k)) (fun k => I.ok.has _ (.inr k))
  rw [arm_eval_DictComp]
  refine wpAny_comprehension_free (use := none) rfl hs (closure_ok fr) ok.kind (fun y hy e => by rw [ok.uniq y hy, e]) (thn (hi.run pins s σ H _ I h) fun _ _ hx => thn hx fun itv s2 h2 => ?_)
  obtain ⟨it, fp, tn, J, H2, rfl, I2, T, st2, f2, q⟩ := h2
  refine wpAny_newObj_type (newEnv_comp ?_)
  generalize eD : s2.heap.objs.size = D
  obtain ⟨W, ⟨m0, w0⟩, turn⟩ := q D (I2.hok.fresh (Nat.le_of_eq eD))
  generalize e3 : ({ s2 with heap := s2.heap.push { cls := .type "dict", data := .dict #[] } } : Shared) = s3
  have hp3 : s3.heap = s2.heap.push { cls := .type "dict", data := .dict #[] } := by rw [← e3]
  have I3 : Inv X pins σ (upd H2 D (.dT [])) s3 := by
    subst e3
    exact I2.laid (t' := s2.toks) (fun b o e => Heap.get?_push_of_some _ e) (Nat.le_of_eq eD) (by rw [← eD]; exact dt_empty s2.heap I2.big)
  have below : ∀ b ∈ fp, b < s2.heap.objs.size := fun b hb => let ⟨_, e, _⟩ := T.obj _ _ st2 b hb; Heap.lt_size e
  have f3 : ∀ b ∈ fp, FpOk X pins (upd H2 D (.dT [])) b ∧ b < s3.heap.objs.size := fun b hb =>
    ⟨⟨(upd_ne (by rw [← eD]; exact Nat.ne_of_lt (below b hb))).trans (f2 b hb).1, (f2 b hb).2⟩, by rw [hp3, Heap.size_push]; exact Nat.lt_succ_of_lt (below b hb)⟩
  have st3 : tn 0 s3.heap := T.keep _ _ _ st2 fun b _ o e => by rw [hp3]; exact Heap.get?_push_of_some _ e
  have B0 := block_start I3 ok hN f3
  generalize ecl : cellsFrom (s3.heap.objs.size + 1) scope.names (cloFrom X.env.cells scope.names []) = cl at B0
  have pg := hg s3 (upd H2 D (.dT [])) s3.heap.objs.size cl fp
  have pt := ht s3 (upd H2 D (.dT [])) s3.heap.objs.size cl fp
  have pk := hk s3 (upd H2 D (.dT [])) s3.heap.objs.size cl fp
  have pe := he s3 (upd H2 D (.dT [])) s3.heap.objs.size cl fp
  show codeAny _ _ (.compStart (.DictComp kx vx [⟨tg, iter, ifs, 0⟩] scope pos) 0 (.ref it) (.ref D) (compEnvC scope cl s3.heap.objs.size X.env)) (compPost (model X.prog X.w) X.A X.xe none (EP X pins σ Q) (.ref D) s3.heap.objs.size) { s3 with heap := pushCells (s3.heap.push { cls := .type "dict", data := .dict #[] }) scope.names }
  have fB : ∀ b ∈ fp, (upd H2 D (.dT [])) b = none := fun b hb => (f3 b hb).1.1
  generalize eH : upd H2 D (.dT []) = H3 at *
  generalize ec : compEnvC scope cl s3.heap.objs.size X.env = ce at *
  have cL : ce.locals = s3.heap.objs.size := by subst ec; rfl
  generalize e4 : ({ s3 with heap := pushCells (s3.heap.push { cls := .type "dict", data := .dict #[] }) scope.names } : Shared) = s4 at *
  have kp4 : ∀ b o, s3.heap.get? b = some o → s4.heap.get? b = some o := fun b o e => by rw [← e4]; exact pushCells_keeps _ _ _ _ (Heap.get?_push_of_some _ e)
  have I4 : Inv (X.blk s3 H3 scope ce fp) [] (wipe σ (own.map (·.2))) H3 s4 := B0
  have st4 : tn 0 s4.heap := T.keep _ _ _ st3 fun b _ o e => kp4 b o e
  have still : ∀ {σ' : L2.St} {H' : Hp} {s' : Shared}, Inv (X.blk s3 H3 scope ce fp) [] σ' H' s' → (∀ b ∈ fp, H' b = none) → ∀ b ∈ fp, FpOk (X.blk s3 H3 scope ce fp) [] H' b := fun I' hn b hb =>
    ⟨hn b hb, (I'.ok.exf b hb).1, I'.ok.exfs b hb, .inl hb, (I'.ok.exf b hb).2, fun q hq => absurd (show q ∈ ([] : List (Addr × Obj)) from hq) (by simp)⟩
  have loop : codeAny (model X.prog X.w) X.A (.compLoop (.DictComp kx vx [⟨tg, iter, ifs, 0⟩] scope pos) 0 (.ref it) (.ref D) ce) (compPost (model X.prog X.w) X.A X.xe none (EP X pins σ Q) (.ref D) s3.heap.objs.size) s4 := by
    refine compLoop_anyD (fun n s' => ∃ i H', Inv (X.blk s3 H3 scope ce fp) [] (wipe σ (own.map (·.2))) H' s' ∧ tn i s'.heap ∧ (∀ b ∈ fp, H' b = none) ∧ W i n H') ?_ m0 ⟨0, H3, I4, st4, fB, w0⟩
    rintro n s5 ⟨i, H5, I5, st5, n5, w5⟩
    rcases turn i n H5 w5 with ⟨stop, qq⟩ | ⟨go, Nx, hNx, step⟩
    · refine thnF (T.done (X.blk s3 H3 scope ce fp) rfl rfl rfl hc i [] s5 _ H5 (fun _ _ => False) I5 (still I5 n5) st5 stop) fun r s6 ⟨hr, I6⟩ => ?_
      subst hr
      have I7 : Inv X pins σ H5 s6 := I3.call' (ch := fp) I6.os I6.base I6.hok I6.bare fun b hb => ⟨(f3 b hb).1.2.2.2.1, (f3 b hb).1.2.1, (f3 b hb).1.2.2.2.2.1, (f3 b hb).1.2.2.2.2.2⟩
      have nC : H5 s3.heap.objs.size = none := by
        rw [← cL]
        exact I6.free
      obtain ⟨m, hn, _⟩ := I6.loc
      refine ⟨m, by rw [← cL]; exact hn, fun h'' sb => ?_⟩
      obtain ⟨g0, g1, g2, g3, g4, g5⟩ := I3.fpOk (H' := H5) (Nat.le_refl _) nC
      exact ⟨.ref D, H5, I7.turned (t' := s6.toks) (fun b o hb e => (sb.2 b hb).trans e) g0 g1 g3 g4 g5, rfl, qq⟩
    · refine thnF (T.item (X.blk s3 H3 scope ce fp) rfl rfl rfl hc i [] s5 _ H5 (fun _ _ => False) I5 (still I5 n5) st5 go) fun r s6 ⟨u, hr, h6⟩ => ?_
      subst hr
      refine thnF h6 fun _ s7 ⟨x, H7, I7, r7, y7, st7, n7⟩ => ?_
      refine thnF (pg.run _ s7 _ H7 x u _ (I7.pinned (still I7 n7) (T.obj _ _ st7)) r7 (step x H7 y7)) fun _ s8 ⟨σ8, H8, I8, hw8, q8⟩ => ?_
      refine thnF (pt.run _ s8 σ8 H8 _ I8 q8) fun b s9 ⟨H9, I9, q9⟩ => ?_
      have next : ∀ {s' : Shared} {H' : Hp}, Inv (X.blk s3 H3 scope ce fp) ([] ++ pinsAt fp s7.heap) σ8 H' s' → Nx H' → ∃ m, m < n ∧ ∃ i H', Inv (X.blk s3 H3 scope ce fp) [] (wipe σ (own.map (·.2))) H' s' ∧ tn i s'.heap ∧ (∀ b ∈ fp, H' b = none) ∧ W i m H' := fun {s' H'} I' nx => by
        obtain ⟨m', hm, w'⟩ := hNx H' nx
        have at7 : ∀ b ∈ fp, ∀ o, s7.heap.get? b = some o → s'.heap.get? b = some o ∧ H' b = none := fun b hb o e =>
          have z := I'.pin (b, o) (List.mem_append_right _ (List.mem_append_right _ (mem_pinsAt hb e)))
          ⟨z.1, z.2.1⟩
        refine ⟨m', hm, i + 1, H', (I'.unpinned (pins := [])).weak (by rw [← hw8, wipe_length]) (fun j v e => (wipe_some (hw8 ▸ e)).1), T.keep _ _ _ st7 fun b hb o e => (at7 b hb o e).1, fun b hb => ?_, w'⟩
        obtain ⟨o, e, _⟩ := T.obj _ _ st7 b hb
        exact (at7 b hb o e).2
      cases b with
      | false => exact next I9 q9
      | true =>
        refine thnF (pk.run _ s9 σ8 H9 _ I9 q9) fun z s10 ⟨yk, H10, I10, r10, q10⟩ => ?_
        refine thnF (pe.run _ s10 σ8 H10 _ I10 q10) fun z2 s11 ⟨yv, H11, I11, r11, kvs, k, b, ek, eb, hD11, hz11, nx⟩ => ?_
        subst ek
        exact dset_T (X := X.blk s3 H3 scope ce fp) hu I11 hD11 eb hz11 r10 r11 fun s12 I12 => next I12 nx
  exact codeAny_compStart_dict loop (T.self X.A 0 _ _ _ st4 loop)
end
end Mz

set_option Elab.async false
set_option linter.all false
set_option maxRecDepth 100000
set_option maxHeartbeats 4000000
/-! == and != of machines -/
namespace Mz
open PySem PySem.Spec PyProof.Rows L2
def dRow (w : List Int) : PyData := .tuple (w.map .int)
def dMach (M : Mach) : PyData := .tuple [.int M.ls, .int M.os, .tuple (M.rows.map dRow), dRow M.outs]
theorem depthI : ∀ ns : List Int, PyData.depthAll (ns.map PyData.int) ≤ 1
  | [] => by simp [PyData.depthAll]
  | _ :: r => by
    have := depthI r
    simp only [List.map_cons, PyData.depthAll, PyData.depth]
    omega
theorem lay_ints : ∀ ns : List Int, PyData.canLayAll0 (ns.map PyData.int) = true
  | [] => by simp [PyData.canLayAll0]
  | _ :: r => by simp [PyData.canLayAll0, PyData.canLay0, lay_ints r]
theorem depth_rows : ∀ rs : List (List Int), PyData.depthAll (rs.map dRow) ≤ 2
  | [] => by simp [PyData.depthAll]
  | w :: r => by
    have := depth_rows r
    have := depthI w
    simp only [List.map_cons, PyData.depthAll]
    have e : PyData.depth (dRow w) = 1 + PyData.depthAll (w.map PyData.int) ∨ PyData.depth (dRow w) = PyData.depthAll (w.map PyData.int) + 1 := by
      unfold dRow
      simp only [PyData.depth]
      omega
    omega
theorem lay_rows : ∀ rs : List (List Int), PyData.canLayAll0 (rs.map dRow) = true
  | [] => by simp [PyData.canLayAll0]
  | w :: r => by
    have := lay_rows r
    have := lay_ints w
    simp [PyData.canLayAll0, dRow, PyData.canLay0, *]
theorem lay_mach (M : Mach) : PyData.canLay0 (dMach M) = true := by
  have := lay_rows M.rows
  have := lay_ints M.outs
  unfold dMach dRow at *
  simp [PyData.canLayAll0, PyData.canLay0, *]
theorem shaped_mach (M : Mach) : SeqAt.shaped (dMach M) = true := by
  have h1 := depth_rows M.rows
  have h2 := depthI M.outs
  have h3 : PyData.depth (dMach M) ≤ 64 := by
    have e : PyData.depth (dRow M.outs) ≤ PyData.depthAll (M.outs.map PyData.int) + 1 := by
      unfold dRow
      simp only [PyData.depth]
      omega
    unfold dMach
    simp only [PyData.depthAll, PyData.depth]
    omega
  show (PyData.canLay0 (dMach M) && decide (PyData.depth (dMach M) ≤ 64)) = true
  rw [lay_mach, decide_eq_true h3]
  rfl
theorem dp_rows {K : PySem.W.Frag} {H : Hp} : ∀ (rs : List Addr) (rows : List (List Int)), rs.length = rows.length → (∀ (i : Nat) (r : Addr) (w : List Int), rs[i]? = some r → rows[i]? = some w → IT H r w) → DpAll K H (rs.map V.ref) (rows.map dRow)
  | [], [], _, _ => .nil
  | r :: rs, w :: rows, l, h => .cons (.tup (SqT.of (h 0 r w rfl rfl)) (dp_ints w)) (dp_rows rs rows (by simpa using l) fun i r w a b => h (i + 1) r w a b)
  | [], _ :: _, l, _ => by simp at l
  | _ :: _, [], l, _ => by simp at l
theorem dp_mach {K : PySem.W.Frag} {H : Hp} {m : Addr} {M : Mach} (h : MA H m M) : Dp K H (.ref m) (dMach M) := by
  obtain ⟨mv, ou, rs, hM⟩ := h
  exact .tup (SqT.of hM.top) (.cons (.int _) (.cons (.int _) (.cons (.tup (SqT.of hM.mv) (dp_rows rs M.rows hM.len hM.row)) (.cons (.tup (SqT.of hM.ou) (dp_ints M.outs)) .nil))))
section
variable {K : PySem.W.Frag} {H : Hp} {a b : Addr} {M : Mach} {Q : VK}
theorem eq_mach (h1 : MA H a M) (h2 : MA H b M) (q : Q (.bl true) H) : rEqD K (.ref a) (.ref b) H Q :=
  ⟨_, _, dp_mach h1, dp_mach h2, shaped_mach M, shaped_mach M, by rw [SeqAt.eqv_refl _ (lay_mach M)]; exact q⟩
theorem ne_mach (h1 : MA H a M) (h2 : MA H b M) (q : Q (.bl false) H) : rNeD K (.ref a) (.ref b) H Q :=
  ⟨_, _, dp_mach h1, dp_mach h2, shaped_mach M, shaped_mach M, by rw [SeqAt.eqv_refl _ (lay_mach M)]; exact q⟩
end
def rMinK (K : PySem.W.Frag) : List V → Hp → VK → Prop := rMin K
theorem call_minK {X : Cx} (hc : X.calm = true) : CallR X (.builtin "min") (rMinK X.K) := cr_min hc
end Mz

set_option Elab.async false
set_option linter.all false
set_option maxRecDepth 100000
set_option maxHeartbeats 4000000
/-! try: .. except A as e: .. except B: .. : the first handler with a name, the others without -/
namespace Mz
open PySem PySem.Spec PyProof.Rows L2 L2N
/-- what a suite's end says of the try -/
theorem suite_end {X : Cx} {pins : List (Addr × Obj)} {a : Addr} {oe : Obj} (o : X.Ok) {D : Ends} {fl : Flow} {t : Shared} (z : SP (X.suite a ((a, oe) :: (X.pn ++ pins))) [] D fl t) : SP X pins D fl t := by
  cases fl with
  | next => exact (let ⟨σ1, G1, J, q⟩ := z; ⟨σ1, G1, J.unsuite o, q⟩)
  | brk => exact (let ⟨σ1, G1, J, q⟩ := z; ⟨σ1, G1, J.unsuite o, q⟩)
  | cont => exact (let ⟨σ1, G1, J, q⟩ := z; ⟨σ1, G1, J.unsuite o, q⟩)
  | ret u => exact (let ⟨v, σ1, G1, J, r, q⟩ := z; ⟨v, σ1, G1, J.unsuite o, r, q⟩)
section
variable {X : Cx} {x n : Str} {c : Value} {i : Nat} {body suite : List Stmt} {b₀ : Stmt} {np pos pos' : Pos} {tb : WX → TS} {ts : Addr → Value → Option Addr → TS} {Wout : WX} {hds : List ExceptHandler} {l : List (Value × (Addr → Value → Option Addr → TS))}
theorem ps_try_as_many (stk : X.stack = X.env :: X.outer) (own : X.env.frame = some X.env.locals) (nod : X.N.Nodup) (slot : X.N[i]? = some n) (loc : X.env.kindOf n = some .local) (nm : Names X x c) (out : L2N.Takes X Wout)
    (hbody : ∀ (W : WX) (pn : List (Addr × Obj)) (xe : Value → Shared → Prop), L2N.Takes (X.tr pn xe) W → PassesOwn (model X.prog X.w) X.A X.env xe → PSs (X.tr pn xe) body (tb W))
    (hfirst : ∀ (a : Addr) (oe : Obj) (cls : Value) (d : Option Addr) (pn : List (Addr × Obj)), Zn cls d oe → (∃ vs, oe.data = .fields vs) → PSs (X.suite a ((a, oe) :: pn)) (b₀ :: suite) (ts a cls d))
    (rest : L2N.HdsOk X hds l) : PS X (.Try body (.ExceptHandler (some (.Name x np)) (some n) (b₀ :: suite) pos' :: hds) [] [] pos) (fun D σ H => tb (wAs X.K c i ts (wMany X.K Wout D l) D) D σ H) := by
  refine ⟨fun pins s0 σ0 H0 D I0 start => ?_⟩
  have ok := I0.ok
  have frm : X.A.frames = some (X.env :: X.outer) := ok.frames.trans (congrArg some stk)
  refine wpAny_Try_except (wpAny_mono ((hbody (wAs X.K c i ts (wMany X.K Wout D l) D) (X.pn ++ pins) (fun e t1 => wpAny (model X.prog X.w) X.A (noteFrame e X.env) (fun _ t2 => wpAny (model X.prog X.w) X.A (setFlight e none) (fun _ t3 =>
    wpAny (model X.prog X.w) X.A (handleBy e X.env (.ExceptHandler (some (.Name x np)) (some n) (b₀ :: suite) pos' :: hds)) (SP X pins D) X.xe t3) X.xe t2) X.xe t1) (fun u t caught => ?_) PassesOwn.looking).run [] s0 σ0 H0 D (I0.toTry _) start) (fun fl t z => ?_) (fun _ _ e => e))
  · obtain ⟨a, B, tI, pins1, σ1, G1, cls, d, rfl, J1, nb, up, inSky, free, os, ag, b, hit, yes, no⟩ := caught
    have J : Inv X pins σ1 G1 tI := J1.ofTry ok
    refine Sky.land Zn.steady frm own (by rw [← stk]; exact inSky) fun g down up2 => ?_
    have JL : Inv X pins σ1 G1 { t with heap := g } := J.landed nb down.1 (up.trans up2) os ag
    obtain ⟨oe, vs, at_, zn, dat⟩ := down.there
    have out1 : a ∉ frs (X.env :: X.outer) := fun hm => by
      obtain ⟨_, o2, e2, z2⟩ := down.2.2.1.mem hm
      rw [at_] at e2
      cases e2
      exact z2 _ dat
    have notL : a ≠ X.env.locals := fun z => out1 (List.mem_filterMap.mpr ⟨X.env, List.mem_cons_self, by rw [own, z]⟩)
    have notF : a ∉ X.fs := fun hm => (List.mem_filterMap.mp hm).elim fun e q => out1 (List.mem_filterMap.mpr ⟨e, List.mem_cons_of_mem _ q.1, q.2⟩)
    have JS := JL.suite at_ dat free notL notF
    have ask : ∀ {y : Str} {k : Value} {q : Pos} {R : Value → Shared → Prop} {E : Value → Shared → Prop}, Names X y k → R k { t with heap := g } → wpAny (model X.prog X.w) (X.A.mark (some (.ref a))) (eval (.Name y q) X.env) R E { t with heap := g } := fun {y k q R E} nk r => by
      obtain ⟨g1, g2, g3 | ⟨g3, g4, g5⟩⟩ := nk
      · exact ld_glob (X := X.suite a ((a, oe) :: (X.pn ++ pins))) JS g1 g3 r g2
      · exact ld_blt (X := X.suite a ((a, oe) :: (X.pn ++ pins))) JS g1 g3 g4 r g5 g2
    have kind : PySem.W.Looks (model X.prog X.w) g (typeOf (.ref a)) cls := fun _ _ _ _ kp r => wpAny_typeOf_ref (kp _ _ at_) (zn.1.symm ▸ r)
    -- the handlers behind the first
    have behind : ∀ {hs2 : List ExceptHandler} {l2 : List (Value × (Addr → Value → Option Addr → TS))}, L2N.HdsOk X hs2 l2 → wMany X.K Wout D l2 cls d σ1 G1 → wpAny (model X.prog X.w) X.A (handleBy (.ref a) X.env hs2) (SP X pins D) X.xe { t with heap := g } := by
      intro hs2 l2 hk
      induction hk with
      | nil =>
        intro w
        obtain ⟨_, _, _, oe1, vs1, T, oT, ts1, e1, _, e3, e4, _⟩ := id down
        refine wpAny_handleBy_nil ?_
        unfold PySem.passOn
        refine wpAny_bind (wpAny_field e1 e3 e4 ?_)
        rw [if_neg (by simp : ¬ ((Value.ref T == Value.none) = true))]
        have go : wpAny (model X.prog X.w) X.A (setFlight (.ref a) X.env.frame) (fun _ t4 => wpAny (model X.prog X.w) X.A (throw (.ref a) : Sem Flow) (SP X pins D) X.xe t4) X.xe { t with heap := g } := by
          rw [own]
          exact HandSPX.setFlight_upZ down fun g4 sky4 up4 => wpAny_throw (out _ _ ⟨a, B, tI, pins, σ1, G1, cls, d, rfl, J, nb, (up.trans up2).trans up4, .inr (.inr (by rw [stk]; exact sky4)), free, os, ag, w⟩)
        first
          | exact wpAny_bind (wpAny_pure (wpAny_bind go))
          | exact wpAny_bind go
      | @cons y k ts2 b2 suite2 np2 pos2 hs3 l3 nk hs r ih =>
        rintro ⟨b2, hit2, yes2, no2⟩
        refine wpAny_handleBy_cons (codeAny_handlers_test (ask nk ((PySem.W.exm_one (M := model X.prog X.w) JL.kIn kind hit2).here ?_))) (by intro q; cases q)
        cases b2 with
        | false =>
          show wpAny _ X.A (handleBy (.ref a) X.env hs3) _ _ _
          exact ih (no2 rfl)
        | true =>
          refine codeAny_handlers_suite (HandSPX.lands_againZ down fun g4 down4 up4 => ?_)
          obtain ⟨oe4, vs4, at4, zn4, dat4⟩ := down4.there
          have J4 : Inv X pins σ1 G1 { t with heap := g4 } := J.landed nb down4.1 ((up.trans up2).trans up4) os ag
          exact wpAny_mono ((hs a oe4 cls d (X.pn ++ pins) zn4 ⟨_, dat4⟩).run [] _ _ G1 _ (J4.suite at4 dat4 free notL notF) (yes2 rfl a free)) (fun fl t6 z => suite_end ok z) fun _ _ z => z.elim
    refine wpAny_handleBy_cons (codeAny_handlers_test (ask nm ((PySem.W.exm_one (M := model X.prog X.w) JL.kIn kind hit).here ?_))) (by intro q; cases q)
    cases b with
    | false =>
      show wpAny _ X.A (handleBy (.ref a) X.env hds) _ _ _
      exact behind rest (no rfl)
    | true =>
      refine codeAny_handlers_suite_as (HandSPX.lands_againZ down fun g4 down4 up4 => ?_)
      obtain ⟨oe4, vs4, at4, zn4, dat4⟩ := down4.there
      have J4 : Inv X pins σ1 G1 { t with heap := g4 } := J.landed nb down4.1 ((up.trans up2).trans up4) os ag
      refine store_ok (X := X.suite a ((a, oe4) :: (X.pn ++ pins))) (v := .ref a) (J4.suite at4 dat4 free notL notF) nod slot (.inl loc) rfl (fun t5 J5 => ?_) (.inr loc)
      refine wpAny_mono ((hfirst a oe4 cls d (X.pn ++ pins) zn4 ⟨_, dat4⟩).run [] t5 _ G1 _ J5 (yes rfl a free)) (fun fl t6 z => ?_) fun _ _ z => z.elim
      have unbind : ∀ {σ6 : L2.St} {G6 : Hp} {R : Shared → Prop}, Inv (X.suite a ((a, oe4) :: (X.pn ++ pins))) [] σ6 G6 t6 → (∀ t7, Inv X pins (σ6.set i none) G6 t7 → R t7) → wpAny (model X.prog X.w) X.A (do bindName X.env n .none; unbindBehindTheSuite X.env n pos') (fun _ t7 => R t7) X.xe t6 :=
        fun J6 r => gone_ok (J6.unsuite ok) nod slot loc r
      cases fl with
      | next => exact (let ⟨σ6, G6, J6, q⟩ := z; unbind J6 fun t7 J7 => ⟨_, _, J7, q⟩)
      | brk => exact (let ⟨σ6, G6, J6, q⟩ := z; unbind J6 fun t7 J7 => ⟨_, _, J7, q⟩)
      | cont => exact (let ⟨σ6, G6, J6, q⟩ := z; unbind J6 fun t7 J7 => ⟨_, _, J7, q⟩)
      | ret u => exact (let ⟨v, σ6, G6, J6, r, q⟩ := z; unbind J6 fun t7 J7 => ⟨_, _, _, J7, r, q⟩)
  · cases fl with
    | next => exact wpAny_execs_nil (let ⟨σ1, G1, J, q⟩ := z; ⟨σ1, G1, J.ofTry ok, q⟩)
    | brk => exact (let ⟨σ1, G1, J, q⟩ := z; ⟨σ1, G1, J.ofTry ok, q⟩)
    | cont => exact (let ⟨σ1, G1, J, q⟩ := z; ⟨σ1, G1, J.ofTry ok, q⟩)
    | ret u => exact (let ⟨v, σ1, G1, J, r, q⟩ := z; ⟨v, σ1, G1, J.ofTry ok, r, q⟩)
end
end Mz

set_option Elab.async false
set_option linter.all false
set_option maxRecDepth 100000
set_option maxHeartbeats 4000000
/-! enumerate of a tuple -/
namespace Mz
open PySem PySem.Spec PyProof.Rows L2
theorem enumT_made (t : Addr) (items : Array Value) (n : Nat) (dct : Option Addr) (sl : Array (Option Value)) :
    Meets (Builtin.«enumerate.__new__» ⟨[.type "enumerate", .ref t], []⟩) (fun _ R s => s.heap.get? t = some { cls := .type "tuple", dict := dct, data := .seq items n, slots := sl } ∧
      R (.ok (.ret (.ref (s.heap.push { cls := .type "tuple_iterator", data := .fields #[.ref t, .int 0 0] }).objs.size)))
        { s with heap := (s.heap.push { cls := .type "tuple_iterator", data := .fields #[.ref t, .int 0 0] }).push { cls := .type "enumerate", data := .fields #[.none, .bool false, .ref s.heap.objs.size, rawInt 0, .none, .none] } }) :=
  .of_wp fun prog w A R s h => by
    obtain ⟨hp, g, d, tk, os⟩ := s
    obtain ⟨ht, r⟩ := h
    have sub := sub_enumerate
    have isT : Heap.IsTuple (Shared.heap ⟨hp, g, d, tk, os⟩) t items := ⟨_, ht, rfl, n, rfl⟩
    wp_walk using AutoSeq1.wpAny_loadPart' ht
    refine wpAny_stack_any fun st => wpAny_pure ?_
    split
    · rename_i c _ _ _ _ _
      cases (c == Value.type "enumerate")
      · wp_walk using AutoSeq1.wpAny_loadPart' ht, wpAny_pyIter_tuple isT
        exact ⟨_, rfl, r⟩
      · wp_walk using AutoSeq1.wpAny_loadPart' ht, wpAny_pyIter_tuple isT
        exact ⟨_, rfl, r⟩
    · wp_walk using AutoSeq1.wpAny_loadPart' ht, wpAny_pyIter_tuple isT
      exact ⟨_, rfl, r⟩
theorem call_enumT {prog : Program} {w : World} {A : Around} {E : Value → Shared → Prop} {s : Shared} {t : Addr} {items : Array Value} {Q : Value → Shared → Prop} (isT : s.heap.IsTuple t items)
    (k : ∀ g, IsEnum g (s.heap.objs.size + 1) s.heap.objs.size 0 .none → g.IsTupleIter s.heap.objs.size t 0 → (∀ b o, s.heap.get? b = some o → g.get? b = some o) → Q (.ref (s.heap.objs.size + 1)) { s with heap := g }) :
    wpAny (model prog w) A (call (.type "enumerate") [.ref t]) Q E s := by
  obtain ⟨⟨c, dct, dt, sl⟩, at_, hc, n, hd⟩ := isT
  obtain rfl : c = .type "tuple" := hc
  obtain rfl : dt = .seq items n := hd
  refine callType_new PySem.F.called_enumerate (by decide) (PySem.F.typeCall_enumerate_1 _) (PySem.F.newCall_enumerate_1 _) (fun obj => PySem.F.args_object_init_2 obj _) PySem.F.entry_enumerate_new (enumT_made t items n dct sl) ⟨at_, ?_⟩
  have size1 : (s.heap.push { cls := .type "tuple_iterator", data := .fields #[.ref t, .int 0 0] }).objs.size = s.heap.objs.size + 1 := Heap.size_push ..
  show _ ∧ _
  rw [size1]
  have en : IsEnum ((s.heap.push { cls := .type "tuple_iterator", data := .fields #[.ref t, .int 0 0] }).push { cls := .type "enumerate", data := .fields #[.none, .bool false, .ref s.heap.objs.size, rawInt 0, .none, .none] }) (s.heap.objs.size + 1) s.heap.objs.size 0 .none := by
    have z := Heap.get?_push_size (s.heap.push { cls := .type "tuple_iterator", data := .fields #[.ref t, .int 0 0] }) (o := { cls := .type "enumerate", data := .fields #[.none, .bool false, .ref s.heap.objs.size, rawInt 0, .none, .none] }) rfl
    rw [size1] at z
    exact z
  exact ⟨⟨_, en, rfl⟩, k _ en ⟨_, Heap.get?_push_of_some _ (Heap.get?_push_size _ rfl), rfl, rfl⟩ fun b o e => Heap.get?_push_of_some _ (Heap.get?_push_of_some _ e)⟩
/-- the tuple at a, each item in a new pair -/
def IteT (K : PySem.W.Frag) (a : Addr) : It :=
  ⟨fun i H => ∃ (xs : List V) (x : V), SqT K H a xs ∧ xs[i]? = some x, fun i H v H' => ∃ T x, v = .ref T ∧ H T = none ∧ H' = upd H T (.tup [.int (i : Nat), x]) ∧ ∀ xs, SqT K H a xs → xs[i]? = some x, fun i H => ∃ xs : List V, SqT K H a xs ∧ xs.length ≤ i⟩
theorem turn_enumT {P : Program} {w : World} {K : PySem.W.Frag} {elts : List Expr} {kk : Nat} {tpos : Pos} (a e it : Addr) :
    Turn P w K (.Tuple elts kk tpos) (IteT K a) [e, it] e (fun i h => (∃ old, IsEnum h e it ((i : Nat) : Int) old) ∧ h.IsTupleIter it a i ∧ e ≠ it ∧ e ≠ a ∧ a ≠ it) where
  mem := by simp
  obj := fun i h ⟨⟨old, en⟩, ⟨o, at_, _, dat⟩, _⟩ b hb => by
    rcases List.mem_cons.mp hb with z | z
    · rw [z]
      exact ⟨_, en, fun v q => nomatch q⟩
    · rw [List.mem_singleton.mp z]
      exact ⟨o, at_, fun v q => by rw [dat] at q; cases q⟩
  keep := fun i h h' ⟨⟨old, en⟩, ti, rest⟩ k => ⟨⟨old, k e (by simp) _ en⟩, ti.at fun o q => k it (by simp) o q, rest⟩
  item := by
    rintro X rfl rfl rfl calm i pins s σ H E I free ⟨⟨old, en⟩, ti, ne, nea, nai⟩ ⟨xs, x, hq, hx⟩
    obtain ⟨its, rv, p, _⟩ := I.tuple hq
    obtain ⟨u, hu, ru⟩ := rv.get hx
    have tp : s.heap.IsTuple a its.toArray := p
    have ilt : i < its.toArray.size := by
      have := (List.getElem?_eq_some_iff.mp hu).1
      simpa using this
    have elt : e < s.heap.objs.size := Heap.lt_size en
    have tlt : it < s.heap.objs.size := by
      obtain ⟨_, q, _⟩ := ti
      exact Heap.lt_size q
    refine wpAny_pyNext_enum_itemD (Draws.tuple (A := X.A.in1) (I.ok.hd calm) it a nai its.toArray) en ⟨ti, tp⟩ ilt ne (by simp [ne, nea]) fun x' g tk hx' eo st' hT sz kp => ?_
    have ex : x' = u := by
      have q : its.toArray[i]? = some u := by simpa using hu
      rw [q] at hx'
      exact (Option.some.inj hx').symm
    subst ex
    refine ⟨_, rfl, wpAny_letOwnedTupleGo_enum (s := { s with heap := g, toks := tk + 1 }) eo fun g2 en2 sb => ?_⟩
    have hT2 : g2.get? s.heap.objs.size = some { cls := .type "tuple", data := .seq #[.int i tk, x'] } := (sb.2 _ (Nat.ne_of_gt elt)).trans hT
    have new : ObjOk X.prog X.w (upd H s.heap.objs.size (.tup [.int (i : Nat), x])) g2 s.heap.objs.size (.tup [.int (i : Nat), x]) :=
      ⟨by show 2 ≤ sizeLine; decide, [.int i tk, x'], .cons ⟨_, rfl⟩ (.cons ru .nil), ⟨_, hT2, rfl, _, rfl⟩⟩
    have J : Inv X pins σ (upd H s.heap.objs.size (.tup [.int (i : Nat), x])) { s with heap := g2, toks := tk + 1 } :=
      I.turnedNew (ch := [e, it]) (fun b ob hb q => (sb.2 b (fun z => hb (by simp [z]))).trans (kp b ob (fun z => hb (by simp [z])) (fun z => hb (by simp [z])) q)) free (Nat.le_refl _) new
    refine ⟨.ref s.heap.objs.size, _, J, rfl, ⟨_, x, rfl, I.hok.fresh (Nat.le_refl _), rfl, fun ys hy => by rw [I.tuple_inj hy hq]; exact hx⟩, ⟨⟨x', ?_⟩, st'.1.at fun o q => (sb.2 it (Ne.symm ne)).trans q, ne, nea, nai⟩, fun b hb => ?_⟩
    · rw [show ((i + 1 : Nat) : Int) = (i : Int) + 1 by omega]
      exact en2
    · have lt : b < s.heap.objs.size := by
        rcases List.mem_cons.mp hb with z | z
        · rw [z]
          exact elt
        · rw [List.mem_singleton.mp z]
          exact tlt
      rw [upd_ne (Nat.ne_of_lt lt)]
      exact (free b hb).1
  done := by
    rintro X rfl rfl rfl calm i pins s σ H E I free ⟨⟨old, en⟩, ti, ne, nea, nai⟩ ⟨xs, hq, hx⟩
    obtain ⟨its, rv, p, _⟩ := I.tuple hq
    obtain ⟨f0, f1, f2, f3, f4, f5⟩ := free it (by simp)
    have tp : s.heap.IsTuple a its.toArray := p
    have len := rv.length
    have past : its.toArray[i]? = none := by simp; omega
    have kind : s.TypeIs (.ref e) "enumerate" := ⟨_, en, rfl⟩
    have stop : wpAny (model X.prog X.w) X.A.in1 (Builtin.SmallTypes.nextOf (.ref it)) (fun _ _ => False) (fun x s' => ∃ g, x = x ∧ s' = { s with heap := g } ∧ Heap.ExtBut it s.heap g ∧ ∃ e', x = .ref e' ∧ ∃ o, g.get? e' = some o ∧ o.cls = .type "StopIteration") s :=
      wpAny_nextOf_tuple_end (I.ok.hd calm) ti tp past fun g e' eb ⟨o, q1, q2⟩ => ⟨g, rfl, rfl, eb, e', rfl, o, q1, q2⟩
    unfold pyNext
    refine wpAny_bind (wpAny_attempt (wpAny_callSpecial?_slot (name := Str.ofString "__next__") kind PySem.F.slot_enumerate_next (wpAny_call_entry PySem.F.slot_enumerate_next kind PySem.F.entry_enumerate_next ?_ (PySem.F.args_enumerate_next_1 _))))
    show wpAny _ _ (field (.ref e) 2 >>= _) _ _ _
    refine wpAny_bind (wpAny_field en rfl (x := .ref it) rfl (wpAny_bind (wpAny_mono stop (fun _ _ z => z.elim) ?_)))
    rintro x s' ⟨g, _, rfl, eb, e', rfl, o, q1, q2⟩
    refine wpAny_bind (wpAny_isInstance (T := "StopIteration") (b := true) ⟨o, q1, q2⟩ isSubtype_stop ?_)
    exact wpAny_pure ⟨rfl, I.turned (t' := s.toks) (fun b o hb q => eb b o hb q) f0 f1 f3 f4 f5⟩
  self := fun A i s Q E ⟨⟨_, en⟩, _⟩ h => wpAny_pyIter_enum en h
def iEnumT (K : PySem.W.Frag) (ta : TA) : TI := fun σ H R => ta σ H fun vs H1 => ∃ a, vs = [.ref a] ∧ ((∃ xs, SqL K H1 a xs) ∧ R (Ite K a) H1 ∨ (∃ xs, SqT K H1 a xs) ∧ R (IteT K a) H1)
/-- for i, x in enumerate(e), e a list or a tuple -/
theorem pi_enumT {X : Cx} {e : Expr} {ta : TA} {p pos tpos : Pos} {elts : List Expr} {kk : Nat} (hg : Gl X "enumerate") (hm : X.mg "enumerate" = none) (ha : PA X [e] ta) (hs : starEach [e] X.env = [(false, eval e X.env)] := by rfl) :
    PI X (.Tuple elts kk tpos) (.Call (.Name "enumerate" p) [e] [] pos) (iEnumT X.K ta) := by
  refine ⟨fun pins s σ H R I h => Call_ (ld_blt I hg hm boot_enumerate (PyProof.Rows.callWith_type1 (thn (ha.run pos pins s σ H _ I h) fun us s1 ⟨vs, H1, I1, r1, a, ev, q⟩ => ?_) hs rfl))⟩
  subst ev
  obtain ⟨u, rfl, rfl⟩ := vals1 r1
  have below : ∀ b ∈ [s1.heap.objs.size + 1, s1.heap.objs.size], FpOk X pins H1 b := fun b hb => by
    have le : s1.heap.objs.size ≤ b := by
      rcases List.mem_cons.mp hb with z | z
      · omega
      · rw [List.mem_singleton.mp z]
        exact Nat.le_refl _
    exact I1.fpOk le (I1.hok.fresh le)
  rcases q with ⟨⟨xs, hq⟩, q⟩ | ⟨⟨xs, hq⟩, q⟩
  · obtain ⟨its, rv, pl, _⟩ := I1.list hq
    refine call_enumerate_list pl.isList fun g en ti _ kp => wpAny_pyIter_enum en ?_
    exact ⟨_, [s1.heap.objs.size + 1, s1.heap.objs.size], _, _, H1, rfl, I1.kept (t' := s1.toks) kp, turn_enum a _ _, ⟨⟨.none, en⟩, ti, Nat.succ_ne_self _⟩, below, q⟩
  · obtain ⟨its, rv, pl, _⟩ := I1.tuple hq
    have tp : s1.heap.IsTuple a its.toArray := pl
    have alt : a < s1.heap.objs.size := by
      obtain ⟨o, q, _⟩ := id tp
      exact Heap.lt_size q
    refine call_enumT tp fun g en ti kp => wpAny_pyIter_enum en ?_
    exact ⟨_, [s1.heap.objs.size + 1, s1.heap.objs.size], _, _, H1, rfl, I1.kept (t' := s1.toks) kp, turn_enumT a _ _, ⟨⟨.none, en⟩, ti, Nat.succ_ne_self _, Nat.ne_of_gt (Nat.lt_succ_of_lt alt), Nat.ne_of_lt alt⟩, below, q⟩
end Mz

set_option Elab.async false
set_option linter.all false
set_option maxRecDepth 100000
set_option maxHeartbeats 4000000
/-! dicts from (int, (ints)) to ints -/
namespace Mz
open PySem PySem.Spec PyProof.Rows L2
abbrev PK := Int × List Int
def nk (p : PK) : NestedKey := .tup [.num p.1, .tup (p.2.map .num)]
theorem nums_inj : ∀ {a b : List Int}, a.map NestedKey.num = b.map NestedKey.num → a = b
  | [], [], _ => rfl
  | [], _ :: _, h => by simp at h
  | _ :: _, [], h => by simp at h
  | x :: a, y :: b, h => by
    rw [List.map_cons, List.map_cons] at h
    injection h with h1 h2
    injection h1 with h1
    rw [h1, nums_inj h2]
theorem nk_inj {p q : PK} (h : nk p = nk q) : p = q := by
  unfold nk at h
  injection h with h
  injection h with h1 h2
  injection h1 with h1
  injection h2 with h2 _
  injection h2 with h2
  exact Prod.ext h1 (nums_inj h2)
abbrev Ent := PK × Addr × Value
def rawE (x : Ent) : NestedKey × Addr × Value := (nk x.1, x.2)
/-- such a dict, as its own object tells it -/
def NestO (P : Program) (w : World) (d : Addr) (xs : List Ent) : HO := .ext fun h => (d == sysModules) = false ∧ xs.length ≤ sizeLine ∧
  ∃ o es ep, h.get? d = some o ∧ o.ExactDict ∧ o.data = .dict es ep ∧ es.toList = (xs.map rawE).map (entryOfKey (nestedKind P w)) ∧ (xs.map (·.1)).Nodup
/-- the key p stands at a -/
def KeyAt (H : Hp) (a : Addr) (p : PK) : Prop := ∃ b, H a = some (.tup [.int p.1, .ref b]) ∧ H b = some (.tup (p.2.map V.int))
theorem KeyAt.same {H H' : Hp} {a : Addr} {p : PK} (k : KeyAt H a p) (s : Same H H') : KeyAt H' a p := let ⟨b, h1, h2⟩ := k; ⟨b, s _ _ h1, s _ _ h2⟩
theorem nums_all {h : Heap} : ∀ {ns : List Int} {its : List Value}, Vals (ns.map V.int) its → NestedAll h (ns.map .num) its
  | [], _, .nil => .nil
  | n :: ns, _, .cons r t => by
    obtain ⟨k, rfl⟩ := (show ∃ k, _ = Value.int n k from r)
    exact .cons (.int n k) (nums_all t)
theorem nums_depth : ∀ ns : List Int, NestedKey.depthAll (ns.map .num) ≤ 1
  | [] => by simp [NestedKey.depthAll]
  | n :: ns => by
    have := nums_depth ns
    simp [NestedKey.depthAll, NestedKey.depth]
    omega
section
variable {P : Program} {w : World} {H : Hp} {h : Heap} {d : Addr}
theorem key_nest (ok : HOk P w H h) {a : Addr} {p : PK} (k : KeyAt H a p) : (nestedKind P w).is h (nk p) a := by
  obtain ⟨b, h1, h2⟩ := k
  obtain ⟨_, its, rv, o, e1, e2, n, e3⟩ := (show ObjOk P w H h a (.tup _) from ok a _ h1)
  obtain ⟨_, its2, rv2, o2, f1, f2, n2, f3⟩ := (show ObjOk P w H h b (.tup _) from ok b _ h2)
  refine ⟨.tup e1 e2 e3 ?_, ?_⟩
  · cases rv with
    | cons r t =>
      cases t with
      | cons r2 t =>
        cases t
        obtain ⟨k, rfl⟩ := (show ∃ k, _ = Value.int p.1 k from r)
        cases (show _ = Value.ref b from r2)
        refine .cons (.int _ _) (.cons (.tup f1 f2 f3 ?_) .nil)
        simpa using nums_all rv2
  · have := nums_depth p.2
    simp [nk, NestedKey.depth, NestedKey.depthAll]
    omega
theorem nest_nodup {xs : List Ent} (h : (xs.map (·.1)).Nodup) : ((xs.map rawE).map (·.1)).Nodup := by
  have e : (xs.map rawE).map (·.1) = (xs.map (·.1)).map nk := by
    rw [List.map_map, List.map_map]
    rfl
  rw [e]
  exact List.Pairwise.map _ (fun a b n z => n (nk_inj z)) h
theorem nest_of (ok : HOk P w H h) {xs : List Ent} (e : H d = some (NestO P w d xs)) (ks : ∀ x ∈ xs, KeyAt H x.2.1 x.1) : (d == sysModules) = false ∧ xs.length ≤ sizeLine ∧ h.DictOfH (nestedKind P w) d (xs.map rawE) := by
  obtain ⟨⟨a, b, o, es, ep, h1, h2, h3, h4, h5⟩, _⟩ := (show ObjOk P w H h d (NestO P w d xs) from ok d _ e)
  refine ⟨a, b, o, es, ep, h1, h2, h3, h4, fun x hx => ?_, nest_nodup h5⟩
  obtain ⟨y, hy, rfl⟩ := List.mem_map.mp hx
  exact key_nest ok (ks y hy)
theorem nest_ok {xs : List Ent} (hd : (d == sysModules) = false) (z : xs.length ≤ sizeLine) (n : (xs.map (·.1)).Nodup) (D : h.DictOfH (nestedKind P w) d (xs.map rawE)) : ObjOk P w H h d (NestO P w d xs) := by
  obtain ⟨o, es, ep, h1, h2, h3, h4, _, _⟩ := D
  refine ⟨⟨hd, z, o, es, ep, h1, h2, h3, h4, n⟩, ⟨o, h1⟩, fun g1 g2 ⟨a, b, o1, es1, ep1, k1, k2, k3, k4, k5⟩ kp => ⟨a, b, o1, es1, ep1, kp _ k1, k2, k3, k4, k5⟩⟩
end
/-- the dict's content, key by key -/
structure NestD (P : Program) (w : World) (H : Hp) (d : Addr) (kvs : List (PK × Int)) : Prop where
  ex : ∃ xs : List Ent, H d = some (NestO P w d xs) ∧ (∀ x ∈ xs, KeyAt H x.2.1 x.1) ∧ Paired (fun (kv : PK × Int) x => kv.1 = x.1 ∧ ∃ t, x.2.2 = Value.int kv.2 t) kvs xs
def findK (kvs : List (PK × Int)) (p : PK) : Option Int := (kvs.find? fun kv => decide (kv.1 = p)).map (·.2)
theorem findK_at {p : PK} : ∀ {kvs : List (PK × Int)} {xs : List Ent}, Paired (fun (kv : PK × Int) x => kv.1 = x.1 ∧ ∃ t, x.2.2 = Value.int kv.2 t) kvs xs →
    (∀ v, findK kvs p = some v → ∃ a t, atKey (xs.map rawE) (nk p) = some (a, Value.int v t)) ∧ (findK kvs p = none → atKey (xs.map rawE) (nk p) = none)
  | [], [], _ => ⟨fun v h => (by cases h), fun _ => rfl⟩
  | kv :: kvs, x :: xs, .cons r t => by
    obtain ⟨ih1, ih2⟩ := findK_at (p := p) t
    obtain ⟨r1, k, r2⟩ := r
    by_cases c : kv.1 = p
    · have e1 : findK (kv :: kvs) p = some kv.2 := by simp [findK, List.find?_cons, c]
      rw [e1]
      refine ⟨fun v hv => ?_, fun hv => (by cases hv)⟩
      cases hv
      refine ⟨x.2.1, k, ?_⟩
      have e2 : (rawE x).1 = nk p := by
        show nk x.1 = nk p
        rw [← r1, c]
      unfold atKey
      rw [List.map_cons, List.find?_cons, decide_eq_true e2]
      show some (x.2.1, x.2.2) = _
      rw [r2]
    · have e1 : findK (kv :: kvs) p = findK kvs p := by simp [findK, List.find?_cons, c]
      have e2 : ¬ (rawE x).1 = nk p := fun z => c (r1.trans (nk_inj z))
      have e3 : atKey ((x :: xs).map rawE) (nk p) = atKey (xs.map rawE) (nk p) := by
        unfold atKey
        rw [List.map_cons, List.find?_cons, decide_eq_false e2]
      rw [e1, e3]
      exact ⟨ih1, ih2⟩
section
variable {P : Program} {w : World} {H H' : Hp} {d : Addr} {kvs : List (PK × Int)}
theorem NestD.same (n : NestD P w H d kvs) (s : Same H H') : NestD P w H' d kvs := by
  obtain ⟨xs, e, ks, r⟩ := n.ex
  exact ⟨xs, s _ _ e, fun x hx => (ks x hx).same s, r⟩
theorem NestD.new (h : H d = none) : NestD P w (upd H d (NestO P w d [])) d [] := ⟨[], upd_same, fun x hx => absurd hx (by simp), .nil⟩
theorem NestD.len (n : NestD P w H d kvs) : ∃ xs : List Ent, xs.length = kvs.length ∧ H d = some (NestO P w d xs) := by
  obtain ⟨xs, e, _, r⟩ := n.ex
  exact ⟨xs, (Paired.length r).symm, e⟩
end
/-- d[key] -/
theorem nest_get {X : Cx} {pins : List (Addr × Obj)} {σ : L2.St} {H : Hp} {s : Shared} {A : Around} {E : Value → Shared → Prop} {d a : Addr} {kvs : List (PK × Int)} {p : PK} {v : Int} {Q : Value → Shared → Prop} (hu : A.units + 10 < cLine)
    (I : Inv X pins σ H s) (n : NestD X.prog X.w H d kvs) (ka : KeyAt H a p) (f : findK kvs p = some v) (q : ∀ u s', Inv X pins σ H s' → RelV (.int v) u → Q u s') : wpAny (model X.prog X.w) A (getItem (.ref d) (.ref a)) Q E s := by
  obtain ⟨xs, e, ks, r⟩ := n.ex
  obtain ⟨_, _, D⟩ := nest_of I.hok e ks
  obtain ⟨b, t, f2⟩ := (findK_at r).1 v f
  exact wpAny_getItem_heap (knd := nestedKind X.prog X.w) (show A.in1.units + 8 < cLine by show A.units + 1 + 8 < cLine; omega) (key_nest I.hok ka) D f2 (q _ _ (I.tok _) ⟨t, rfl⟩)
/-- d.setdefault(key, z) -/
theorem nest_set {X : Cx} {pins : List (Addr × Obj)} {σ : L2.St} {H : Hp} {s : Shared} {A : Around} {E : Value → Shared → Prop} {d a : Addr} {kvs : List (PK × Int)} {p : PK} {z : Int} {r : Value} {Q : Value → Shared → Prop} (hu : A.units + 10 < cLine) (hl : kvs.length < sizeLine)
    (I : Inv X pins σ H s) (n : NestD X.prog X.w H d kvs) (ka : KeyAt H a p) (rz : RelV (.int z) r) (old : ∀ v, findK kvs p = some v → ∀ u s', Inv X pins σ H s' → RelV (.int v) u → Q u s')
    (new : findK kvs p = none → ∀ xs' s', NestD X.prog X.w (upd H d (NestO X.prog X.w d xs')) d (kvs ++ [(p, z)]) → Inv X pins σ (upd H d (NestO X.prog X.w d xs')) s' → Q r s') : wpAny (model X.prog X.w) A (call (.builtin "dict.setdefault") [.ref d, .ref a, r]) Q E s := by
  obtain ⟨xs, e, ks, rel⟩ := n.ex
  obtain ⟨hd, hz, D⟩ := nest_of I.hok e ks
  have hlx : xs.length = kvs.length := (Paired.length rel).symm
  refine call_setdefault_heap (knd := nestedKind X.prog X.w) (hsz := by rw [List.length_map]; exact hz) (show A.in1.units + 8 < cLine by show A.units + 1 + 8 < cLine; omega) (key_nest I.hok ka) hd D (fun pr hp => ?_) (fun hn h' D' sb => ?_)
  · cases f : findK kvs p with
    | none =>
      rw [(findK_at rel).2 f] at hp
      cases hp
    | some v =>
      obtain ⟨b, t, f2⟩ := (findK_at rel).1 v f
      rw [f2] at hp
      cases hp
      exact old v f _ _ (I.tok _) ⟨t, rfl⟩
  · cases f : findK kvs p with
    | some v =>
      obtain ⟨b, t, f2⟩ := (findK_at rel).1 v f
      rw [f2] at hn
      cases hn
    | none =>
      obtain ⟨t, rfl⟩ := (show ∃ t, r = Value.int z t from rz)
      have e1 : storedH (xs.map rawE) (nk p) a (Value.int z t) = (xs ++ [(p, a, Value.int z t)]).map rawE := by
        rw [storedH_new hn, List.map_append]
        rfl
      rw [e1] at D'
      have nod : ((xs ++ [(p, a, Value.int z t)]).map (·.1)).Nodup := by
        obtain ⟨⟨_, _, _, _, _, _, _, _, _, k5⟩, _⟩ := (show ObjOk X.prog X.w H s.heap d (NestO X.prog X.w d xs) from I.hok d _ e)
        rw [List.map_append]
        refine List.nodup_append.mpr ⟨k5, by simp, fun y hy q hq => ?_⟩
        simp at hq
        rw [hq]
        rintro rfl
        obtain ⟨x, hx, e3⟩ := List.mem_map.mp hy
        obtain ⟨j, hj, e4⟩ := List.getElem_of_mem hx
        unfold atKey at hn
        rw [Option.map_eq_none_iff, List.find?_eq_none] at hn
        have := hn (rawE x) (List.mem_map.mpr ⟨x, hx, rfl⟩)
        simp [rawE, e3] at this
      have he : ∃ o, h'.get? d = some o := let ⟨o, _, _, k, _⟩ := D'; ⟨o, k⟩
      have hz2 : (xs ++ [(p, a, Value.int z t)]).length ≤ sizeLine := by
        rw [List.length_append, List.length_singleton]
        omega
      have nd : NestD X.prog X.w (upd H d (NestO X.prog X.w d (xs ++ [(p, a, Value.int z t)]))) d (kvs ++ [(p, z)]) := by
        have kt : ∀ {b : Addr} {q : PK}, KeyAt H b q → KeyAt (upd H d (NestO X.prog X.w d (xs ++ [(p, a, Value.int z t)]))) b q := fun {b q} ⟨c, k1, k2⟩ => by
          refine ⟨c, ?_, ?_⟩
          · rw [upd_ne fun z => ?_]
            · exact k1
            · rw [z, e] at k1
              cases k1
          · rw [upd_ne fun z => ?_]
            · exact k2
            · rw [z, e] at k2
              cases k2
        refine ⟨_, upd_same, fun x hx => ?_, ?_⟩
        · rcases List.mem_append.mp hx with q | q
          · exact kt (ks x q)
          · rw [List.mem_singleton.mp q]
            exact kt ka
        · have app : ∀ {l1 : List (PK × Int)} {l2 : List Ent}, Paired (fun (kv : PK × Int) (x : Ent) => kv.1 = x.1 ∧ ∃ t, x.2.2 = Value.int kv.2 t) l1 l2 → Paired (fun (kv : PK × Int) (x : Ent) => kv.1 = x.1 ∧ ∃ t, x.2.2 = Value.int kv.2 t) (l1 ++ [(p, z)]) (l2 ++ [(p, a, Value.int z t)]) := by
            intro l1 l2 hp
            induction hp with
            | nil => exact .cons ⟨rfl, t, rfl⟩ .nil
            | cons h _ ih => exact .cons h ih
          exact app rel
      exact new f _ _ nd (d_write (t' := s.toks + (nestedKind X.prog X.w).draws (nk p)) I (by rw [e]; exact True.intro) sb he (nest_ok hd hz2 nod D'))
/-! ### the rules: a dict of ints, or of such keys -/
def tNewKN (P : Program) (w : World) : TE := fun _ H Q => (∀ p, H p = none → Q (.ref p) (upd H p (.dK []))) ∨ ∀ p, H p = none → Q (.ref p) (upd H p (NestO P w p []))
theorem pe_dnewKN {X : Cx} {pos : Pos} : PE X (.Dict [] [] pos) (tNewKN X.prog X.w) := by
  refine ⟨fun pins s σ H Q I h => ?_⟩
  rcases h with h | h
  · exact pe_dnewK.run pins s σ H Q I h
  · have hb : sysModules < s.heap.objs.size := I.big
    have ok : ObjOk X.prog X.w (upd H s.heap.objs.size (NestO X.prog X.w s.heap.objs.size [])) (s.heap.push { cls := .type "dict", data := .dict #[] }) s.heap.objs.size (NestO X.prog X.w s.heap.objs.size []) :=
      nest_ok (beq_eq_false_iff_ne.mpr (Ne.symm (Nat.ne_of_lt hb))) (Nat.zero_le _) List.nodup_nil ⟨_, #[], 0, Heap.get?_push_size _ rfl, ⟨rfl, rfl, rfl⟩, rfl, rfl, fun x hx => absurd hx (by simp), List.nodup_nil⟩
    exact wpAny_Dict_empty ⟨.ref s.heap.objs.size, _, I.laid (a := s.heap.objs.size) (o := NestO X.prog X.w s.heap.objs.size []) (t' := s.toks) (fun _ _ q => Heap.get?_push_of_some _ q) (Nat.le_refl _) ok, rfl, h _ (I.hok.fresh (Nat.le_refl _))⟩
def tGetKN (P : Program) (w : World) (td ty : TE) : TE := fun σ H Q => td σ H fun x H1 => ty σ H1 fun y H2 => (∃ a v, x = .ref a ∧ DGet H2 a y (some v) ∧ Q v H2) ∨
  ∃ (d a : Addr) (kvs : List (PK × Int)) (p : PK) (v : Int), x = .ref d ∧ y = .ref a ∧ NestD P w H2 d kvs ∧ KeyAt H2 a p ∧ findK kvs p = some v ∧ Q (.int v) H2
theorem pe_dgetKN {X : Cx} {o i : Expr} {pos : Pos} {td ty : TE} (hu : X.A.units + 10 < cLine) (ho : PE X o td) (hi : PE X i ty) (hs : NoSl i) : PE X (.Subscript o i pos) (tGetKN X.prog X.w td ty) := by
  refine ⟨fun pins s σ H Q I h => ?_⟩
  refine subD_of PySem.F.slot_dict_getitem.lookup hs (thn (ho.run pins s σ H _ I h) fun u s1 ⟨x, H1, I1, rx, q1⟩ => thn (hi.run pins s1 σ H1 _ I1 q1) fun iv s2 ⟨y, H2, I2, ry, q2⟩ => ?_)
  rcases q2 with ⟨a, v, rfl, g, q⟩ | ⟨d, a, kvs, p, v, rfl, rfl, n, ka, f, q⟩
  · obtain rfl : u = Value.ref a := rx
    exact ⟨dict_typeIs I2 g, d_getItem (by omega) I2 g ry fun w' s3 I3 rw' => ⟨v, H2, I3, rw', q⟩⟩
  · obtain rfl : u = Value.ref d := rx
    obtain rfl : iv = Value.ref a := ry
    obtain ⟨xs, e, ks, _⟩ := n.ex
    exact ⟨(nest_of I2.hok e ks).2.2.typeIs, nest_get hu I2 n ka f fun w' s3 I3 rw' => ⟨_, H2, I3, rw', q⟩⟩
def IsKN (P : Program) (w : World) (H : Hp) (a : Addr) : Prop := (∃ kvs, H a = some (.dK kvs)) ∨ ∃ kvs, NestD P w H a kvs
def tSetKN (P : Program) (w : World) (td ty tx : TE) : TE := fun σ H Q => td σ H fun x H1 => ∃ a, x = .ref a ∧ IsKN P w H1 a ∧ ty σ H1 fun y H2 => tx σ H2 fun z H3 =>
  (∃ (kvs : List (L2.Key × V)) (k : L2.Key), H3 a = some (.dK kvs) ∧ y = kV k ∧ kvs.length < sizeLine ∧ (∀ v, valV kvs k = some v → Q v H3) ∧ (valV kvs k = none → Q z (upd H3 a (.dK (putK kvs k z))))) ∨
  ∃ (b : Addr) (kvs : List (PK × Int)) (p : PK) (n : Int), y = .ref b ∧ z = .int n ∧ NestD P w H3 a kvs ∧ KeyAt H3 b p ∧ kvs.length < sizeLine ∧ (∀ v, findK kvs p = some v → Q (.int v) H3) ∧
    (findK kvs p = none → ∀ xs', NestD P w (upd H3 a (NestO P w a xs')) a (kvs ++ [(p, n)]) → Q (.int n) (upd H3 a (NestO P w a xs')))
theorem pe_dsetKN {X : Cx} {o e f : Expr} {td ty tx : TE} {apos cpos : Pos} (hu : X.A.units + 10 < cLine) (ho : PE X o td) (he : PE X e ty) (hf : PE X f tx) (m : M2 X o "setdefault" apos e f cpos) : PE X (.Call (.Attribute o "setdefault" apos) [e, f] [] cpos) (tSetKN X.prog X.w td ty tx) := by
  refine ⟨fun pins s σ H Q I h => ?_⟩
  refine wpAny_Call_method m.base m.few m.line PySem.F.plainAttrs_dict PySem.F.slot_dict_setdefault PySem.F.type_dict_setdefault (thn (ho.run pins s σ H _ I h) fun u s1 ⟨x, H1, I1, rx, a, ex, d, q1⟩ => ?_)
  subst ex
  obtain rfl : u = Value.ref a := rx
  have both : s1.TypeIs (.ref a) "dict" ∧ ∀ b, Value.ref a = .ref b → ∃ ob, s1.heap.get? b = some ob ∧ ob.dict = none := by
    rcases d with ⟨kvs, e1⟩ | ⟨kvs, n⟩
    · obtain ⟨t1, t2, _⟩ := isD_at I1 (.inl ⟨kvs, .inl e1⟩)
      exact ⟨t1, t2⟩
    · obtain ⟨xs, e1, ks, _⟩ := n.ex
      obtain ⟨_, _, D⟩ := nest_of I1.hok e1 ks
      refine ⟨D.typeIs, fun b q => ?_⟩
      cases q
      obtain ⟨ob, _, _, k1, k2, _⟩ := D
      exact ⟨ob, k1, k2.2.1⟩
  refine ⟨both.1, both.2, ?_⟩
  rw [m.trees]
  refine Calls.callWith_builtin rfl (Calls.evalArgs_plain (Calls.spliced_cons (thn (he.run pins s1 σ H1 _ I1 q1) fun iv s2 ⟨y, H2, I2, ry, q2⟩ =>
    Calls.spliced_cons (thn (hf.run pins s2 σ H2 _ I2 q2) fun fv s3 ⟨z, H3, I3, rz, q3⟩ => Calls.spliced_nil ?_))))
  rcases q3 with ⟨kvs, k, ea, rfl, hl, q3, q4⟩ | ⟨b, kvs, p, n, rfl, rfl, nd, ka, hl, q3, q4⟩
  · exact d_setd I3 ea ry rz hl (fun v hv w' s4 I4 rw' => ⟨v, _, I4, rw', q3 v hv⟩) fun hn w' s4 I4 rw' => ⟨z, _, I4, rw', q4 hn⟩
  · obtain rfl : iv = Value.ref b := ry
    exact nest_set hu hl I3 nd ka rz (fun v hv w' s4 I4 rw' => ⟨_, _, I4, rw', q3 v hv⟩) fun hn xs' s4 n4 I4 => ⟨.int n, _, I4, rz, q4 hn xs' n4⟩
end Mz
namespace Mz
open PySem PySem.Spec PyProof.Rows L2
theorem hu10 {k : Nat} {A : Around} (r : Room k A) : A.units + 10 < cLine := by
  have := r.un
  omega
theorem walk_enumT {K : PySem.W.Frag} {a : Addr} {xs : List V} : Walk (IteT K a) xs.length (fun H => SqT K H a xs) (YPair (fun i => some (.int (i : Nat))) (fun i => xs[i]?)) :=
  ⟨fun i H hi q => ⟨xs, xs[i], q, List.getElem?_eq_getElem hi⟩, fun H q => ⟨xs, q, Nat.le_refl _⟩, fun i H v H' _ q ⟨T, x, h1, h2, h3, h4⟩ => ⟨T, .int (i : Nat), x, h1, h2, h3, rfl, h4 xs q⟩⟩
/-- the first place of each -/
def fi {α : Type} [DecidableEq α] (l : List α) (x : α) : Int := (l.findIdx fun y => decide (y = x) : Nat)
theorem fi_new {α : Type} [DecidableEq α] {l : List α} {i : Nat} {x : α} (h : l[i]? = some x) (n : x ∉ l.take i) : fi l x = i := by
  obtain ⟨lt, e⟩ := List.getElem?_eq_some_iff.mp h
  unfold fi
  have : l.findIdx (fun y => decide (y = x)) = i := by
    rw [List.findIdx_eq lt]
    refine ⟨decide_eq_true e, fun j hj => decide_eq_false fun z => n ?_⟩
    rw [← z]
    exact List.mem_take_iff_getElem.mpr ⟨j, by omega, rfl⟩
  rw [this]
theorem findK_snoc {kvs : List (PK × Int)} {p : PK} {z : Int} (n : findK kvs p = none) (q : PK) : findK (kvs ++ [(p, z)]) q = if q = p then some z else findK kvs q := by
  unfold findK at *
  rw [List.find?_append]
  by_cases c : q = p
  · subst c
    rw [Option.map_eq_none_iff] at n
    rw [n, if_pos rfl]
    simp
  · rw [if_neg c]
    have : List.find? (fun kv : PK × Int => decide (kv.1 = q)) [(p, z)] = none := by
      rw [List.find?_cons, decide_eq_false (show ¬ p = q from fun e => c e.symm)]
      rfl
    rw [this]
    simp
end Mz
namespace Mz
open PySem PySem.Spec PyProof.Rows L2
theorem pe_dgetKN2 {X : Cx} {P : Program} {w : World} {o i : Expr} {pos : Pos} {td ty : TE} (hP : X.prog = P) (hw : X.w = w) (hu : X.A.units + 10 < cLine) (ho : PE X o td) (hi : PE X i ty) (hs : NoSl i) : PE X (.Subscript o i pos) (tGetKN P w td ty) := by
  subst hP hw
  exact pe_dgetKN hu ho hi hs
end Mz
namespace Mz
open PySem PySem.Spec PyProof.Rows L2
def iLT (K : PySem.W.Frag) (tl : TE) : TI := fun σ H R => tl σ H fun x H1 => ∃ a, x = .ref a ∧ ((∃ xs, SqL K H1 a xs) ∧ R (Itl K a) H1 ∨ (∃ xs, SqT K H1 a xs) ∧ R (Itt K a) H1)
/-- a list or a tuple -/
theorem pi_lt {X : Cx} {tg l : Expr} {tl : TE} (hl : PE X l tl) : PI X tg l (iLT X.K tl) := by
  refine ⟨fun pins s σ H R I h => thn (hl.run pins s σ H _ I h) fun v s1 ⟨x, H1, I1, r1, a, ex, q⟩ => ?_⟩
  subst ex
  obtain rfl : v = Value.ref a := r1
  have below : ∀ b ∈ [s1.heap.objs.size], FpOk X pins H1 b := fun b hb => by
    rw [List.mem_singleton.mp hb]
    exact I1.fpOk (Nat.le_refl _) (I1.hok.fresh (Nat.le_refl _))
  rcases q with ⟨⟨xs, hq⟩, q⟩ | ⟨⟨xs, hq⟩, q⟩
  · obtain ⟨its, rv, p, _⟩ := I1.list hq
    exact wpAny_pyIter_list p.isList ⟨s1.heap.objs.size, [s1.heap.objs.size], _, _, H1, rfl, I1.kept (t' := s1.toks) (fun b o e => Heap.get?_push_of_some _ e), turn_list a _, ⟨_, Heap.get?_push_size _ rfl, rfl, rfl⟩, below, q⟩
  · obtain ⟨its, rv, p, _⟩ := I1.tuple hq
    have tp : s1.heap.IsTuple a its.toArray := p
    exact wpAny_pyIter_tuple tp ⟨s1.heap.objs.size, [s1.heap.objs.size], _, _, H1, rfl, I1.kept (t' := s1.toks) (fun b o e => Heap.get?_push_of_some _ e), turn_tuple a _, ⟨_, Heap.get?_push_size _ rfl, rfl, rfl⟩, below, q⟩
end Mz
namespace Mz
open PySem PySem.Spec PyProof.Rows L2
theorem seqT {K : PySem.W.Frag} {H H' : Hp} {a : Addr} {xs : List V} (s : Same H H') (h : SqT K H a xs) : SqT K H' a xs := by
  rcases h with (h | ⟨o, h⟩) | h
  · exact .inl (.inl (s _ _ h))
  · exact .inl (.inr ⟨o, s _ _ h⟩)
  · exact .inr h
end Mz
namespace DT
open PySem PySem.Spec PyProof.Rows L2
theorem pget2 {α β : Type} {F : α → β → Prop} : ∀ {l₁ : List α} {l₂ : List β} {j : Nat} {x : α}, Paired F l₁ l₂ → l₁[j]? = some x → ∃ y, l₂[j]? = some y ∧ F x y
  | _, _, 0, _, .cons h _, e => by
    cases e
    exact ⟨_, rfl, h⟩
  | _, _, j + 1, _, .cons _ t, e => pget2 (j := j) t e
  | _, _, 0, _, .nil, e => by cases e
  | _, _, j + 1, _, .nil, e => by cases e
end DT

set_option Elab.async false
set_option linter.all false
set_option maxRecDepth 100000
set_option maxHeartbeats 4000000
/-! equivalences that become finer: how often; pairs that are parted within t letters -/
namespace Mz
open PySem PySem.Spec PyProof.Rows L2
theorem filter_le {p q : Nat → Bool} : ∀ l : List Nat, (∀ x ∈ l, p x = true → q x = true) → (l.filter p).length ≤ (l.filter q).length
  | [], _ => Nat.le_refl _
  | a :: l, h => by
    have ih := filter_le l fun x hx => h x (List.mem_cons_of_mem _ hx)
    have ha := h a List.mem_cons_self
    rw [List.filter_cons, List.filter_cons]
    cases e1 : p a with
    | true =>
      rw [if_pos rfl, ha e1, if_pos rfl, List.length_cons, List.length_cons]
      omega
    | false =>
      rw [if_neg (by simp)]
      split
      · rw [List.length_cons]
        omega
      · exact ih
theorem filter_lt {p q : Nat → Bool} : ∀ l : List Nat, (∀ x ∈ l, p x = true → q x = true) → (∃ x ∈ l, q x = true ∧ p x = false) → (l.filter p).length < (l.filter q).length
  | [], _, h => by
    obtain ⟨x, hx, _⟩ := h
    exact absurd hx (by simp)
  | a :: l, h, ⟨x, hx, q1, q2⟩ => by
    have le := filter_le l fun x hx => h x (List.mem_cons_of_mem _ hx)
    have ha := h a List.mem_cons_self
    rw [List.filter_cons, List.filter_cons]
    rcases List.mem_cons.mp hx with e | e
    · rw [e] at q1 q2
      rw [q2, if_neg (by simp), q1, if_pos rfl, List.length_cons]
      omega
    · have ih := filter_lt l (fun x hx => h x (List.mem_cons_of_mem _ hx)) ⟨x, e, q1, q2⟩
      cases e1 : p a with
      | true =>
        rw [if_pos rfl, ha e1, if_pos rfl, List.length_cons, List.length_cons]
        omega
      | false =>
        rw [if_neg (by simp)]
        split
        · rw [List.length_cons]
          omega
        · exact ih
/-- an equivalence on the numbers below n -/
structure Eqv (n : Nat) (R : Nat → Nat → Prop) : Prop where
  refl : ∀ x, R x x
  symm : ∀ x y, R x y → R y x
  trans : ∀ x y z, R x y → R y z → R x z
def Least (R : Nat → Nat → Prop) (x : Nat) : Prop := ∀ y, y < x → ¬ R x y
open Classical in
noncomputable def cnt (n : Nat) (R : Nat → Nat → Prop) : Nat := ((List.range n).filter fun x => decide (Least R x)).length
theorem cnt_le (n : Nat) (R : Nat → Nat → Prop) : cnt n R ≤ n := by
  have := List.length_filter_le (fun x => @decide (Least R x) (Classical.propDecidable _)) (List.range n)
  rw [List.length_range] at this
  exact this
theorem least_of {R : Nat → Nat → Prop} {n : Nat} (E : Eqv n R) : ∀ x : Nat, ∃ r, r ≤ x ∧ R x r ∧ Least R r := by
  intro x
  induction x using Nat.strongRecOn with
  | ind x ih =>
    by_cases h : Least R x
    · exact ⟨x, Nat.le_refl _, E.refl x, h⟩
    · have : ∃ y, y < x ∧ R x y := Classical.byContradiction fun z => h fun y hy r => z ⟨y, hy, r⟩
      obtain ⟨y, hy, r⟩ := this
      obtain ⟨r', l, e, m⟩ := ih y hy
      exact ⟨r', by omega, E.trans _ _ _ r e, m⟩
open Classical in
/-- strictly finer: more classes -/
theorem cnt_lt {n : Nat} {R S : Nat → Nat → Prop} (ER : Eqv n R) (ES : Eqv n S) (fine : ∀ x y, S x y → R x y) (h : ∃ x y, x < n ∧ y < n ∧ R x y ∧ ¬ S x y) : cnt n R < cnt n S := by
  unfold cnt
  refine filter_lt _ (fun x _ e => ?_) ?_
  · exact decide_eq_true fun y hy s => of_decide_eq_true e y hy (fine _ _ s)
  · obtain ⟨x, y, hx, hy, r, s⟩ := h
    obtain ⟨a, la, ra, ma⟩ := least_of ES x
    obtain ⟨b, lb, rb, mb⟩ := least_of ES y
    have ne : a ≠ b := fun z => by
      subst z
      exact s (ES.trans _ _ _ ra (ES.symm _ _ rb))
    have rab : R a b := ER.trans _ _ _ (ER.symm _ _ (fine _ _ ra)) (ER.trans _ _ _ r (fine _ _ rb))
    by_cases c : a < b
    · exact ⟨b, List.mem_range.mpr (by omega), decide_eq_true mb, decide_eq_false fun z => z a c (ER.symm _ _ rab)⟩
    · exact ⟨a, List.mem_range.mpr (by omega), decide_eq_true ma, decide_eq_false fun z => z b (by omega) rab⟩
open Classical in
theorem cnt_pos {n : Nat} (R : Nat → Nat → Prop) (h : 0 < n) : 0 < cnt n R := by
  unfold cnt
  refine List.length_pos_of_mem (a := 0) (List.mem_filter.mpr ⟨List.mem_range.mpr h, ?_⟩)
  exact decide_eq_true fun y hy => absurd hy (Nat.not_lt_zero _)
/-- d times finer: more than d numbers -/
theorem fine_few {n d : Nat} {R : Nat → Nat → Nat → Prop} (hn : 0 < n) (E : ∀ t, Eqv n (R t)) (fine : ∀ t x y, R (t + 1) x y → R t x y) (h : ∀ e, e < d → ∃ x y, x < n ∧ y < n ∧ R e x y ∧ ¬ R (e + 1) x y) : d + 1 ≤ n := by
  have key : ∀ e, e ≤ d → e + 1 ≤ cnt n (R e) := by
    intro e
    induction e with
    | zero => intro _; exact cnt_pos _ hn
    | succ e ih =>
      intro he
      have := ih (by omega)
      have := cnt_lt (E e) (E (e + 1)) (fine e) (h e (by omega))
      omega
  have := key d (Nat.le_refl _)
  have := cnt_le n (R d)
  omega
/-! ### parted within t letters -/
section
variable (M N : Mach)
def Dn (t : Nat) (p : Pr) : Prop := ∃ v, Lt M.ls v ∧ v.length ≤ t ∧ Bad M N (runP M N p v)
/-- d letters are needed -/
def IsD (d : Nat) (p : Pr) : Prop := Dn M N d p ∧ ∀ e, e < d → ¬ Dn M N e p
end
section
variable {M N : Mach}
theorem Dn.mono {t u : Nat} {p : Pr} (h : Dn M N t p) (l : t ≤ u) : Dn M N u p := by
  obtain ⟨v, a, b, c⟩ := h
  exact ⟨v, a, by omega, c⟩
theorem dn_zero {p : Pr} : Dn M N 0 p ↔ Bad M N p := by
  constructor
  · rintro ⟨v, _, l, b⟩
    have : v = [] := List.length_eq_zero_iff.mp (by omega)
    subst this
    exact b
  · intro b
    exact ⟨[], fun z hz => absurd hz (by simp), Nat.le_refl _, b⟩
theorem dn_succ {t : Nat} {p : Pr} : Dn M N (t + 1) p ↔ Bad M N p ∨ ∃ a, 0 ≤ a ∧ a < M.ls ∧ Dn M N t (stepP M N p a) := by
  constructor
  · rintro ⟨v, h, l, b⟩
    cases v with
    | nil => exact .inl b
    | cons a v =>
      refine .inr ⟨a, (h a List.mem_cons_self).1, (h a List.mem_cons_self).2, v, fun z hz => h z (List.mem_cons_of_mem _ hz), ?_, b⟩
      rw [List.length_cons] at l
      omega
  · rintro (b | ⟨a, h0, h1, v, h, l, b⟩)
    · exact (dn_zero.mpr b).mono (Nat.zero_le _)
    · refine ⟨a :: v, fun z hz => ?_, by rw [List.length_cons]; omega, b⟩
      rcases List.mem_cons.mp hz with e | e
      · rw [e]
        exact ⟨h0, h1⟩
      · exact h z e
theorem isd_of {t : Nat} {p : Pr} (h : Dn M N t p) : ∃ d, d ≤ t ∧ IsD M N d p := by
  induction t with
  | zero => exact ⟨0, Nat.le_refl _, h, fun e he => absurd he (Nat.not_lt_zero _)⟩
  | succ t ih =>
    by_cases c : Dn M N t p
    · obtain ⟨d, l, i⟩ := ih c
      exact ⟨d, by omega, i⟩
    · exact ⟨t + 1, Nat.le_refl _, h, fun e he z => c (z.mono (by omega))⟩
theorem IsD.uniq {d e : Nat} {p : Pr} (a : IsD M N d p) (b : IsD M N e p) : d = e := by
  by_cases h : d < e
  · exact absurd a.1 (b.2 d h)
  · by_cases h2 : e < d
    · exact absurd b.1 (a.2 e h2)
    · omega
/-- the next pair needs one letter less -/
theorem IsD.down (k : Kin M N) {d : Nat} {p : Pr} (hp : InP M N p) (h : IsD M N (d + 1) p) : ∃ a, 0 ≤ a ∧ a < M.ls ∧ IsD M N d (stepP M N p a) := by
  rcases dn_succ.mp h.1 with b | ⟨a, h0, h1, q⟩
  · exact absurd ((dn_zero.mpr b).mono (Nat.zero_le _)) (h.2 d (by omega))
  · refine ⟨a, h0, h1, q, fun e he z => ?_⟩
    exact h.2 (e + 1) (by omega) (dn_succ.mpr (.inr ⟨a, h0, h1, z⟩))
theorem isd_all (k : Kin M N) : ∀ {d : Nat} {p : Pr}, InP M N p → IsD M N d p → ∀ e, e ≤ d → ∃ q, InP M N q ∧ IsD M N e q
  | 0, p, hp, h, e, he => ⟨p, hp, by rw [show e = 0 by omega]; exact h⟩
  | d + 1, p, hp, h, e, he => by
    by_cases c : e = d + 1
    · exact ⟨p, hp, by rw [c]; exact h⟩
    · obtain ⟨a, h0, h1, q⟩ := h.down k hp
      exact isd_all k (k.step hp h0 h1) q e (by omega)
/-- no pair is new: no pair will be -/
theorem dn_stop (k : Kin M N) {t : Nat} (h : ∀ p, InP M N p → Dn M N (t + 1) p → Dn M N t p) : ∀ (v : List Int) (p : Pr), InP M N p → Lt M.ls v → Bad M N (runP M N p v) → Dn M N t p
  | [], p, hp, _, b => (dn_zero.mpr b).mono (Nat.zero_le _)
  | a :: v, p, hp, hv, b => by
    have ha := hv a List.mem_cons_self
    have := dn_stop k h v (stepP M N p a) (k.step hp ha.1 ha.2) (fun z hz => hv z (List.mem_cons_of_mem _ hz)) b
    exact h p hp (dn_succ.mpr (.inr ⟨a, ha.1, ha.2, this⟩))
/-! the outputs of both machines' states, behind words of less than t letters -/
/-- the output behind v from a state of M, or, behind these, of N -/
def outU (M N : Mach) (x : Nat) (v : List Int) : Int := if x < M.rows.length then M.out (M.run x v) else N.out (N.run (x - M.rows.length : Int) v)
theorem runP_pair (p : Pr) : ∀ v : List Int, runP M N p v = (M.run p.1 v, N.run p.2 v) := by
  intro v
  induction v using snoc_ind with
  | h0 => rfl
  | hs v a ih =>
    rw [runP_snoc, ih, run_snoc, run_snoc]
    rfl
theorem few_rounds (k : Kin M N) {d : Nat} {p : Pr} (hp : InP M N p) (h : IsD M N d p) : d + 2 ≤ M.rows.length + N.rows.length := by
  have s1 := k.gm.s1
  refine fine_few (n := M.rows.length + N.rows.length) (d := d + 1) (R := fun t x y => ∀ v, Lt M.ls v → v.length < t → outU M N x v = outU M N y v) (by omega) (fun t => ⟨fun x v _ _ => rfl, fun x y h v a b => (h v a b).symm, fun x y z h1 h2 v a b => (h1 v a b).trans (h2 v a b)⟩)
    (fun t x y h v a b => h v a (by omega)) fun e he => ?_
  obtain ⟨q, hq, i1, i2⟩ := isd_all k hp h e (by omega)
  obtain ⟨⟨a1, a2⟩, a3, a4⟩ := hq
  have ex : ∀ v, outU M N q.1.toNat v = M.out (M.run q.1 v) := fun v => by
    unfold outU
    rw [if_pos (by omega), show ((q.1.toNat : Nat) : Int) = q.1 by omega]
  have ey : ∀ v, outU M N (q.2.toNat + M.rows.length) v = N.out (N.run q.2 v) := fun v => by
    unfold outU
    rw [if_neg (by omega), show (((q.2.toNat + M.rows.length : Nat) : Int) - (M.rows.length : Int)) = q.2 by omega]
  refine ⟨q.1.toNat, q.2.toNat + M.rows.length, by omega, by omega, fun v hv lv => ?_, fun z => ?_⟩
  · rw [ex, ey]
    refine Classical.byContradiction fun ne => ?_
    cases e with
    | zero => exact absurd lv (Nat.not_lt_zero _)
    | succ e => exact i2 e (by omega) ⟨v, hv, by omega, by rw [runP_pair]; exact ne⟩
  · obtain ⟨v, hv, lv, b⟩ := i1
    rw [runP_pair] at b
    have := z v hv (by omega)
    rw [ex, ey] at this
    exact b this
end
end Mz

set_option Elab.async false
set_option linter.all false
set_option maxRecDepth 100000
set_option maxHeartbeats 4000000
/-! the states of one machine that answer alike, by rounds -/
namespace Mz
open PySem PySem.Spec PyProof.Rows L2
/-- alike behind words of at most t letters -/
def RM (M : Mach) (t i j : Nat) : Prop := ∀ v, Lt M.ls v → v.length ≤ t → M.out (M.run i v) = M.out (M.run j v)
/-- alike behind all words -/
def EqM (M : Mach) (i j : Nat) : Prop := ∀ v, Lt M.ls v → M.out (M.run i v) = M.out (M.run j v)
theorem eqv_RM (M : Mach) (n t : Nat) : Eqv n (RM M t) := ⟨fun x v _ _ => rfl, fun x y h v a b => (h v a b).symm, fun x y z h1 h2 v a b => (h1 v a b).trans (h2 v a b)⟩
def LeastOf (R : Nat → Nat → Prop) (i g : Nat) : Prop := g ≤ i ∧ R i g ∧ ∀ j, j < g → ¬ R i j
/-- s tells the least of each class -/
def Rep (R : Nat → Nat → Prop) (n : Nat) (s : List Int) : Prop := s.length = n ∧ ∀ i, i < n → ∃ g : Nat, s[i]? = some (g : Int) ∧ LeastOf R i g
theorem rep_of {α : Type} [DecidableEq α] {l : List α} {R : Nat → Nat → Prop} (h : ∀ (i j : Nat) (x y : α), l[i]? = some x → l[j]? = some y → (x = y ↔ R i j)) : Rep R l.length (l.map (fi l)) := by
  refine ⟨List.length_map .., fun i hi => ?_⟩
  have ei := List.getElem?_eq_getElem hi
  have hex : ∃ y ∈ l, decide (y = l[i]) = true := ⟨l[i], List.getElem_mem hi, decide_eq_true rfl⟩
  have lt : l.findIdx (fun y => decide (y = l[i])) < l.length := List.findIdx_lt_length_of_exists hex
  have at_ : l[l.findIdx (fun y => decide (y = l[i]))] = l[i] := of_decide_eq_true (List.findIdx_getElem (w := lt))
  refine ⟨l.findIdx fun y => decide (y = l[i]), by rw [List.getElem?_map, ei]; rfl, ?_, ?_, fun j hj r => ?_⟩
  · refine Nat.le_of_not_lt fun c => ?_
    have := List.not_of_lt_findIdx c
    simp at this
  · exact (h i _ _ _ ei (List.getElem?_eq_getElem lt)).mp at_.symm
  · have jl : j < l.length := by omega
    have e := (h i j _ _ ei (List.getElem?_eq_getElem jl)).mpr r
    have := List.not_of_lt_findIdx hj
    simp at this
    exact this e.symm
theorem rep_eq {n : Nat} {R : Nat → Nat → Prop} {s : List Int} (E : Eqv n R) (r : Rep R n s) {i j : Nat} (hi : i < n) (hj : j < n) : s.getD i 0 = s.getD j 0 ↔ R i j := by
  obtain ⟨g, e1, l1, q1, m1⟩ := r.2 i hi
  obtain ⟨k, e2, l2, q2, m2⟩ := r.2 j hj
  rw [List.getD_eq_getElem?_getD, List.getD_eq_getElem?_getD, e1, e2]
  constructor
  · intro h
    have h : (g : Int) = k := h
    have h : g = k := by omega
    subst h
    exact E.trans _ _ _ q1 (E.symm _ _ q2)
  · intro h
    show (g : Int) = k
    have : g = k := by
      by_cases c : g < k
      · exact absurd (E.trans _ _ _ (E.symm _ _ h) q1) (m2 g c)
      · by_cases c2 : k < g
        · exact absurd (E.trans _ _ _ h q2) (m1 k c2)
        · omega
    rw [this]
theorem rep_uniq {n : Nat} {R : Nat → Nat → Prop} {s u : List Int} (a : Rep R n s) (b : Rep R n u) : s = u := by
  apply List.ext_getElem? 
  intro i
  by_cases h : i < n
  · obtain ⟨g, e1, l1, q1, m1⟩ := a.2 i h
    obtain ⟨k, e2, l2, q2, m2⟩ := b.2 i h
    have : g = k := by
      by_cases c : g < k
      · exact absurd q1 (m2 g c)
      · by_cases c2 : k < g
        · exact absurd q2 (m1 k c2)
        · omega
    rw [e1, e2, this]
  · rw [List.getElem?_eq_none (by rw [a.1]; omega), List.getElem?_eq_none (by rw [b.1]; omega)]
theorem rep_mono {n : Nat} {R S : Nat → Nat → Prop} {s : List Int} (h : ∀ i j, i < n → j < n → (R i j ↔ S i j)) (r : Rep R n s) : Rep S n s := by
  refine ⟨r.1, fun i hi => ?_⟩
  obtain ⟨g, e, l, q, m⟩ := r.2 i hi
  exact ⟨g, e, l, (h i g hi (by omega)).mp q, fun j hj z => m j hj ((h i j hi (by omega)).mpr z)⟩
/-! ### one round -/
theorem RM_zero {M : Mach} {i j : Nat} : RM M 0 i j ↔ M.out i = M.out j := by
  constructor
  · intro h
    exact h [] (fun z hz => absurd hz (by simp)) (Nat.le_refl _)
  · intro h v _ lv
    have : v = [] := List.length_eq_zero_iff.mp (by omega)
    subst this
    exact h
theorem RM_succ {M : Mach} (g : Good M) {t i j : Nat} (hi : M.St i) (hj : M.St j) : RM M (t + 1) i j ↔ RM M t i j ∧ ∀ a, 0 ≤ a → a < M.ls → RM M t (M.next i a).toNat (M.next j a).toNat := by
  have back : ∀ {k : Nat} {a : Int}, M.St k → 0 ≤ a → a < M.ls → (((M.next k a).toNat : Nat) : Int) = M.next k a := fun {k a} hk h0 h1 => by
    have := (g.step hk h0 h1).1.1
    omega
  constructor
  · intro h
    refine ⟨fun v a b => h v a (by omega), fun a h0 h1 v hv lv => ?_⟩
    rw [back hi h0 h1, back hj h0 h1]
    refine h (a :: v) (fun z hz => ?_) (by rw [List.length_cons]; omega)
    rcases List.mem_cons.mp hz with e | e
    · rw [e]
      exact ⟨h0, h1⟩
    · exact hv z e
  · rintro ⟨h1, h2⟩ v hv lv
    cases v with
    | nil => exact h1 [] hv (Nat.zero_le _)
    | cons a v =>
      have ha := hv a List.mem_cons_self
      have := h2 a ha.1 ha.2 v (fun z hz => hv z (List.mem_cons_of_mem _ hz)) (by rw [List.length_cons] at lv; omega)
      rw [back hi ha.1 ha.2, back hj ha.1 ha.2] at this
      exact this
/-- the marks of a round -/
def markOf (M : Mach) (s : List Int) (i : Nat) : PK := (s.getD i 0, (M.rows.getD i []).map fun z => s.getD z.toNat 0)
theorem mark_eq {M : Mach} (g : Good M) {s : List Int} {t : Nat} (r : Rep (RM M t) M.rows.length s) {i j : Nat} (hi : i < M.rows.length) (hj : j < M.rows.length) : markOf M s i = markOf M s j ↔ RM M (t + 1) i j := by
  have si : M.St i := ⟨by omega, by omega⟩
  have sj : M.St j := ⟨by omega, by omega⟩
  have E := eqv_RM M M.rows.length t
  have row : ∀ {k : Nat}, k < M.rows.length → M.rows.getD k [] ∈ M.rows := fun {k} hk => by
    rw [List.getD_eq_getElem?_getD, List.getElem?_eq_getElem hk]
    exact List.getElem_mem hk
  have nx : ∀ {k : Nat} (a : Nat), (a : Int) < M.ls → k < M.rows.length → ((M.rows.getD k []).map fun z => s.getD z.toNat 0)[a]? = some (s.getD (M.next k a).toNat 0) ∧ (M.next k a).toNat < M.rows.length := fun {k} a ha hk => by
    have hk2 : M.St k := ⟨by omega, by omega⟩
    obtain ⟨st, w, e1, e2⟩ := g.step hk2 (show (0 : Int) ≤ a by omega) ha
    have e3 : M.rows.getD k [] = w := by
      rw [List.getD_eq_getElem?_getD]
      rw [show ((k : Int)).toNat = k by omega] at e1
      rw [e1]
      rfl
    rw [show ((a : Int)).toNat = a by omega] at e2
    refine ⟨by rw [e3, List.getElem?_map, e2]; rfl, ?_⟩
    have := st.1
    have := st.2
    omega
  rw [RM_succ g si sj]
  unfold markOf
  constructor
  · intro h
    injection h with h1 h2
    refine ⟨(rep_eq E r hi hj).mp h1, fun a h0 h3 => ?_⟩
    have a1 : (a.toNat : Int) < M.ls := by omega
    have q1 := nx a.toNat a1 hi
    have q2 := nx a.toNat a1 hj
    rw [show ((a.toNat : Nat) : Int) = a by omega] at q1 q2
    rw [h2, q2.1] at q1
    exact (rep_eq E r q1.2 q2.2).mp (Option.some.inj q1.1).symm
  · rintro ⟨h1, h2⟩
    refine Prod.ext ((rep_eq E r hi hj).mpr h1) ?_
    have li := g.rl _ (row hi)
    have lj := g.rl _ (row hj)
    apply List.ext_getElem?
    intro a
    by_cases c : (a : Int) < M.ls
    · have q1 := nx a c hi
      have q2 := nx a c hj
      show ((M.rows.getD i []).map fun z => s.getD z.toNat 0)[a]? = ((M.rows.getD j []).map fun z => s.getD z.toNat 0)[a]?
      rw [q1.1, q2.1, (rep_eq E r q1.2 q2.2).mpr (h2 a (by omega) c)]
    · rw [List.getElem?_eq_none (by rw [List.length_map]; omega), List.getElem?_eq_none (by rw [List.length_map]; omega)]
/-- a round that brings nothing: all is told -/
theorem stop_all {M : Mach} (g : Good M) {t : Nat} (h : ∀ i j, i < M.rows.length → j < M.rows.length → RM M t i j → RM M (t + 1) i j) : ∀ (v : List Int) (i j : Nat), i < M.rows.length → j < M.rows.length → RM M t i j → Lt M.ls v → M.out (M.run i v) = M.out (M.run j v)
  | [], i, j, hi, hj, r, _ => r [] (fun z hz => absurd hz (by simp)) (Nat.zero_le _)
  | a :: v, i, j, hi, hj, r, hv => by
    have si : M.St i := ⟨by omega, by omega⟩
    have sj : M.St j := ⟨by omega, by omega⟩
    have ha := hv a List.mem_cons_self
    have n1 := (g.step si ha.1 ha.2).1
    have n2 := (g.step sj ha.1 ha.2).1
    have q := ((RM_succ g si sj).mp (h i j hi hj r)).2 a ha.1 ha.2
    have := stop_all g h v _ _ (by have := n1.1; have := n1.2; omega) (by have := n2.1; have := n2.2; omega) q fun z hz => hv z (List.mem_cons_of_mem _ hz)
    rw [show (((M.next i a).toNat : Nat) : Int) = M.next i a by have := n1.1; omega, show (((M.next j a).toNat : Nat) : Int) = M.next j a by have := n2.1; omega] at this
    exact this
end Mz

set_option Elab.async false
set_option linter.all false
set_option maxRecDepth 100000
set_option maxHeartbeats 4000000
/-! lists of lists of ints as data: in, not in, index; kinds of states -/
namespace Mz
open PySem PySem.Spec PyProof.Rows L2
theorem hu65 {k : Nat} {A : Around} (r : Room k A) : A.units + 65 < cLine := by
  have := r.un
  omega
def dLst (w : List Int) : PyData := .list (w.map .int)
def dLL (D : List (List Int)) : PyData := .list (D.map dLst)
theorem lay_lls : ∀ rs : List (List Int), PyData.canLayAll0 (rs.map dLst) = true
  | [] => by simp [PyData.canLayAll0]
  | w :: r => by
    have := lay_lls r
    have := lay_ints w
    simp [PyData.canLayAll0, dLst, PyData.canLay0, *]
theorem depth_lls : ∀ rs : List (List Int), PyData.depthAll (rs.map dLst) ≤ 2
  | [] => by simp [PyData.depthAll]
  | w :: r => by
    have := depth_lls r
    have := depthI w
    simp only [List.map_cons, PyData.depthAll]
    have e : PyData.depth (dLst w) ≤ PyData.depthAll (w.map PyData.int) + 1 := by
      unfold dLst
      simp only [PyData.depth]
      omega
    omega
theorem shaped_ll (D : List (List Int)) : SeqAt.shaped (dLL D) = true := by
  have h1 := depth_lls D
  have h3 : PyData.depth (dLL D) ≤ 64 := by
    unfold dLL
    simp only [PyData.depth]
    omega
  have h4 : PyData.canLay0 (dLL D) = true := by
    unfold dLL
    simp only [PyData.canLay0]
    exact lay_lls D
  show (PyData.canLay0 (dLL D) && decide (PyData.depth (dLL D) ≤ 64)) = true
  rw [h4, decide_eq_true h3]
  rfl
theorem shaped_l (w : List Int) : SeqAt.shaped (dLst w) = true := PySem.W.shaped_ints w
theorem eqv_l (a b : List Int) : PyData.eqv (dLst a) (dLst b) = decide (a = b) := eqv_lists a b
theorem any_ll (D : List (List Int)) (w : List Int) : ((D.map dLst).any fun z => PyData.eqv z (dLst w)) = decide (w ∈ D) := by
  rw [List.any_map, Bool.eq_iff_iff, List.any_eq_true, decide_eq_true_iff]
  constructor
  · rintro ⟨x, hx, h⟩
    have : PyData.eqv (dLst x) (dLst w) = true := h
    rw [eqv_l] at this
    rw [← of_decide_eq_true this]
    exact hx
  · intro h
    exact ⟨w, h, by show PyData.eqv (dLst w) (dLst w) = true; rw [eqv_l]; exact decide_eq_true rfl⟩
/-- a list of lists of ints -/
def LL (H : Hp) (as : List Addr) (D : List (List Int)) : Prop := as.length = D.length ∧ ∀ (i : Nat) (a : Addr) (w : List Int), as[i]? = some a → D[i]? = some w → H a = some (.lst (w.map V.int))
theorem LL.same {H H' : Hp} {as : List Addr} {D : List (List Int)} (h : LL H as D) (s : Same H H') : LL H' as D := ⟨h.1, fun i a w h1 h2 => s _ _ (h.2 i a w h1 h2)⟩
theorem dp_lls {K : PySem.W.Frag} {H : Hp} : ∀ {as : List Addr} {D : List (List Int)}, LL H as D → DpAll K H (as.map V.ref) (D.map dLst)
  | [], [], _ => .nil
  | a :: as, w :: D, h => .cons (.lst (SqL.of (h.2 0 a w rfl rfl)) (dp_ints w)) (dp_lls (as := as) (D := D) ⟨by have := h.1; simpa using this, fun i r w a b => h.2 (i + 1) r w a b⟩)
  | [], _ :: _, h => by have := h.1; simp at this
  | _ :: _, [], h => by have := h.1; simp at this
theorem dp_ll {K : PySem.W.Frag} {H : Hp} {p : Addr} {as : List Addr} {D : List (List Int)} (hp : H p = some (.lst (as.map V.ref))) (h : LL H as D) : Dp K H (.ref p) (dLL D) := .lst (SqL.of hp) (dp_lls h)
theorem dp_l {K : PySem.W.Frag} {H : Hp} {p : Addr} {w : List Int} (hp : H p = some (.lst (w.map V.int))) : Dp K H (.ref p) (dLst w) := .lst (SqL.of hp) (dp_ints w)
section
variable {K : PySem.W.Frag} {H : Hp} {p r : Addr} {as : List Addr} {D : List (List Int)} {w : List Int} {Q : VK}
theorem notin_ll (hr : H r = some (.lst (w.map V.int))) (hp : H p = some (.lst (as.map V.ref))) (h : LL H as D) (q : Q (.bl (!decide (w ∈ D))) H) : rNotInD K (.ref r) (.ref p) H Q :=
  ⟨dLst w, D.map dLst, dp_l hr, dp_ll hp h, shaped_l w, shaped_ll D, by rw [any_ll]; exact q⟩
theorem index_ll (hr : H r = some (.lst (w.map V.int))) (hp : H p = some (.lst (as.map V.ref))) (h : LL H as D) (m : w ∈ D) (q : Q (.int ((D.findIdx fun y => decide (y = w) : Nat))) H) : rIndexD K (.ref p) [.ref r] H Q := by
  have l : D.findIdx (fun y => decide (y = w)) < D.length := List.findIdx_lt_length_of_exists ⟨w, m, decide_eq_true rfl⟩
  have e : D[D.findIdx (fun y => decide (y = w))] = w := of_decide_eq_true (List.findIdx_getElem (w := l))
  refine ⟨p, .ref r, dLst w, D.map dLst, D.findIdx (fun y => decide (y = w)), dLst w, rfl, rfl, dp_ll hp h, dp_l hr, shaped_ll D, shaped_l w, ?_, by rw [eqv_l]; exact decide_eq_true rfl, fun k z hk hz => ?_, q⟩
  · rw [List.getElem?_map, List.getElem?_eq_getElem l, e]
    rfl
  · have h2 : ∃ x, D[k]? = some x ∧ z = dLst x := by
      rw [List.getElem?_map] at hz
      cases e2 : D[k]? with
      | none => rw [e2] at hz; cases hz
      | some x => rw [e2] at hz; exact ⟨x, rfl, (Option.some.inj hz).symm⟩
    obtain ⟨x, hx, rfl⟩ := h2
    rw [eqv_l]
    have h1 := List.not_of_lt_findIdx hk
    obtain ⟨lx, ex⟩ := List.getElem?_eq_some_iff.mp hx
    rw [ex] at h1
    simpa using h1
end
/-! ### kinds -/
/-- numbers that are equal just for related states -/
def Kinds (R : Nat → Nat → Prop) (n : Nat) (kd : List Int) : Prop := kd.length = n ∧ ∀ i j, i < n → j < n → (kd.getD i 0 = kd.getD j 0 ↔ R i j)
/-- the row of kinds of a state -/
def kRow (M : Mach) (kd : List Int) (i : Nat) : List Int := kd.getD i 0 :: (M.rows.getD i []).map fun z => kd.getD z.toNat 0
theorem kRow_iff {M : Mach} (g : Good M) {kd : List Int} {t : Nat} (k : Kinds (RM M t) M.rows.length kd) {i j : Nat} (hi : i < M.rows.length) (hj : j < M.rows.length) : kRow M kd i = kRow M kd j ↔ RM M (t + 1) i j := by
  have si : M.St (i : Int) := ⟨by omega, by omega⟩
  have sj : M.St (j : Int) := ⟨by omega, by omega⟩
  rw [RM_succ g si sj]
  unfold kRow
  obtain ⟨wi, a1, a2, a3⟩ := g.row si
  obtain ⟨wj, b1, b2, b3⟩ := g.row sj
  rw [show ((i : Int)).toNat = i by omega] at a1 a3
  rw [show ((j : Int)).toNat = j by omega] at b1 b3
  rw [a3, b3]
  have li := g.rl wi a2
  have lj := g.rl wj b2
  have nx : ∀ {s : Nat} {w : List Int} {a : Int}, M.rows.getD s [] = w → 0 ≤ a → ∀ (h : a.toNat < w.length), M.next (s : Int) a = w[a.toNat] := fun {s w a} e h0 h => by
    unfold Mach.next
    rw [show ((s : Int)).toNat = s by omega, e, List.getD_eq_getElem?_getD, List.getElem?_eq_getElem h]
    rfl
  have inb : ∀ {w : List Int}, w ∈ M.rows → ∀ {q : Nat} (h : q < w.length), (w[q]).toNat < M.rows.length := fun {w} hw {q} h => by
    have := g.rb w hw _ (List.getElem_mem h)
    omega
  constructor
  · intro h
    injection h with h1 h2
    refine ⟨(k.2 i j hi hj).mp h1, fun a a0 a1' => ?_⟩
    have la : a.toNat < wi.length := by omega
    have lb : a.toNat < wj.length := by omega
    have e : (wi.map fun z => kd.getD z.toNat 0)[a.toNat]? = (wj.map fun z => kd.getD z.toNat 0)[a.toNat]? := by rw [h2]
    rw [List.getElem?_map, List.getElem?_map, List.getElem?_eq_getElem la, List.getElem?_eq_getElem lb] at e
    have e := Option.some.inj e
    rw [nx a3 a0 la, nx b3 a0 lb]
    exact (k.2 _ _ (inb a2 la) (inb b2 lb)).mp e
  · rintro ⟨h1, h2⟩
    rw [(k.2 i j hi hj).mpr h1]
    congr 1
    apply List.ext_getElem
    · rw [List.length_map, List.length_map]
      omega
    · intro q q1 q2
      rw [List.length_map] at q1 q2
      rw [List.getElem_map, List.getElem_map]
      refine (k.2 _ _ (inb a2 q1) (inb b2 q2)).mpr ?_
      have := h2 (q : Int) (by omega) (by omega)
      rw [nx a3 (by omega) (show ((q : Int)).toNat < wi.length by omega), nx b3 (by omega) (show ((q : Int)).toNat < wj.length by omega)] at this
      exact this
theorem kinds_zero {M : Mach} (g : Good M) : Kinds (RM M 0) M.rows.length M.outs := ⟨g.ol, fun i j _ _ => by
  rw [RM_zero]
  rfl⟩
/-- behind as many rounds as states, the kinds are final -/
theorem kinds_all {M : Mach} (g : Good M) {kd : List Int} (k : Kinds (RM M M.rows.length) M.rows.length kd) : Kinds (EqM M) M.rows.length kd := by
  have n1 := g.s1
  have stop : ∃ e, e < M.rows.length ∧ ∀ i j, i < M.rows.length → j < M.rows.length → RM M e i j → RM M (e + 1) i j := by
    refine Classical.byContradiction fun n => ?_
    have := fine_few (n := M.rows.length) (d := M.rows.length) (R := RM M) (by omega) (eqv_RM M M.rows.length) (fun t x y h v a b => h v a (by omega)) (fun e he => ?_)
    · omega
    · refine Classical.byContradiction fun z => n ⟨e, he, fun i j hi hj r => Classical.byContradiction fun q => z ⟨i, j, hi, hj, r, q⟩⟩
  obtain ⟨e, he, st⟩ := stop
  refine ⟨k.1, fun i j hi hj => (k.2 i j hi hj).trans ⟨fun r v a => ?_, fun r v a _ => r v a⟩⟩
  exact stop_all g st v i j hi hj (fun v a b => r v a (by omega)) a
/-- the distinct ones, in the order of their first places -/
def dds (l : List (List Int)) : List (List Int) := l.foldl (fun D w => if w ∈ D then D else D ++ [w]) []
theorem dds_snoc (l : List (List Int)) (w : List Int) : dds (l ++ [w]) = if w ∈ dds l then dds l else dds l ++ [w] := by
  unfold dds
  rw [List.foldl_append]
  rfl
theorem dds_few : ∀ (n : Nat) (l : List (List Int)), l.length = n → (dds l).length ≤ n
  | 0, l, h => by
    rw [List.length_eq_zero_iff.mp h]
    exact Nat.le_refl 0
  | n + 1, l, h => by
    rcases List.eq_nil_or_concat l with e | ⟨l', w, e⟩
    · rw [e] at h
      cases h
    · rw [List.concat_eq_append] at e
      subst e
      rw [List.length_append] at h
      have := dds_few n l' (by simpa using h)
      rw [dds_snoc]
      split
      · omega
      · rw [List.length_append]
        show (dds l').length + 1 ≤ n + 1
        omega
end Mz

set_option Elab.async false
set_option linter.all false
set_option maxRecDepth 100000
set_option maxHeartbeats 4000000
/-! the order in which classes are met; machines that answer alike have the same least machine -/
namespace Mz
open PySem PySem.Spec PyProof.Rows L2
/-- the class of a state -/
def cls (G : List Int) (z : Int) : Int := G.getD z.toNat 0
def addC (o : List Int) (c : Int) : List Int := if c ∈ o then o else o ++ [c]
def ordStep (G row o : List Int) : List Int := row.foldl (fun o z => addC o (cls G z)) o
/-- the order when the places below k are done -/
def ordAt (M : Mach) (G : List Int) : Nat → List Int
  | 0 => [cls G 0]
  | k + 1 => if k < (ordAt M G k).length then ordStep G (M.rows.getD ((ordAt M G k).getD k 0).toNat []) (ordAt M G k) else ordAt M G k
/-- the least machine, as an order tells it -/
def leastBy (M : Mach) (G o : List Int) : Mach :=
  ⟨M.ls, M.os, o.map fun c => (M.rows.getD c.toNat []).map fun z => ((o.findIdx fun y => decide (y = cls G z) : Nat) : Int), o.map fun c => M.out c⟩
/-- states that answer alike -/
def Sim (M N : Mach) (x y : Int) : Prop := ∀ v, Lt M.ls v → M.out (M.run x v) = N.out (N.run y v)
section
variable {M N : Mach} {G F : List Int}
/-- a class's own state -/
def IsRp (M : Mach) (G : List Int) (c : Int) : Prop := M.St c ∧ cls G c = c
theorem cls_rp (g : Good M) (r : Rep (EqM M) M.rows.length G) {z : Int} (h : M.St z) : IsRp M G (cls G z) ∧ Sim M M z (cls G z) := by
  obtain ⟨c, e, l, q, m⟩ := r.2 z.toNat (by have := h.1; have := h.2; omega)
  have ez : ((z.toNat : Nat) : Int) = z := by have := h.1; omega
  have ec : cls G z = (c : Int) := by
    unfold cls
    rw [List.getD_eq_getElem?_getD, e]
    rfl
  have cl : c < M.rows.length := by have := h.1; have := h.2; omega
  obtain ⟨d, e2, l2, q2, m2⟩ := r.2 c cl
  have dc : d = c := by
    by_cases c3 : d < c
    · refine absurd (fun v hv => ?_) (m d c3)
      exact (q v hv).trans (q2 v hv)
    · omega
  refine ⟨⟨?_, ?_⟩, ?_⟩
  · rw [ec]
    exact ⟨by omega, by omega⟩
  · rw [ec]
    unfold cls
    rw [show ((c : Int)).toNat = c by omega, List.getD_eq_getElem?_getD, e2, dc]
    rfl
  · intro v hv
    have := q v hv
    rw [ez] at this
    rw [ec]
    exact this
theorem rp_uniq (g : Good M) (r : Rep (EqM M) M.rows.length G) {c d : Int} (hc : IsRp M G c) (hd : IsRp M G d) (s : Sim M M c d) : c = d := by
  have E : Eqv M.rows.length (EqM M) := ⟨fun x v _ => rfl, fun x y h v a => (h v a).symm, fun x y z h1 h2 v a => (h1 v a).trans (h2 v a)⟩
  have h1 := (rep_eq E r (i := c.toNat) (j := d.toNat) (by have := hc.1.1; have := hc.1.2; omega) (by have := hd.1.1; have := hd.1.2; omega)).mpr (fun v hv => by
    rw [show ((c.toNat : Nat) : Int) = c by have := hc.1.1; omega, show ((d.toNat : Nat) : Int) = d by have := hd.1.1; omega]
    exact s v hv)
  have e1 : G.getD c.toNat 0 = c := hc.2
  have e2 : G.getD d.toNat 0 = d := hd.2
  rw [e1, e2] at h1
  exact h1
theorem Sim.step (g : Good M) (ls : M.ls = N.ls) {x y a : Int} (s : Sim M N x y) (h0 : 0 ≤ a) (h1 : a < M.ls) : Sim M N (M.next x a) (N.next y a) := fun v hv =>
  s (a :: v) fun z hz => by
    rcases List.mem_cons.mp hz with e | e
    · rw [e]
      exact ⟨h0, h1⟩
    · exact hv z e
/-- orders of both, place by place alike -/
abbrev Both (M N : Mach) (G F o u : List Int) : Prop := Paired (fun c d => IsRp M G c ∧ IsRp N F d ∧ Sim M N c d) o u
theorem both_mem (ls : M.ls = N.ls) (gm : Good M) (gn : Good N) (rm : Rep (EqM M) M.rows.length G) (rn : Rep (EqM N) N.rows.length F) {c d : Int} (hc : IsRp M G c) (hd : IsRp N F d) (s : Sim M N c d) :
    ∀ {o u : List Int}, Both M N G F o u → (c ∈ o ↔ d ∈ u) ∧ o.findIdx (fun y => decide (y = c)) = u.findIdx (fun y => decide (y = d))
  | _, _, .nil => ⟨⟨fun z => absurd z (by simp), fun z => absurd z (by simp)⟩, rfl⟩
  | x :: o, y :: u, .cons ⟨h1, h2, h3⟩ t => by
    obtain ⟨i1, i2⟩ := both_mem ls gm gn rm rn hc hd s t
    have e : x = c ↔ y = d := by
      constructor
      · rintro rfl
        exact rp_uniq gn rn h2 hd fun v hv => ((h3 v (by rw [ls]; exact hv)).symm.trans (s v (by rw [ls]; exact hv)))
      · rintro rfl
        exact rp_uniq gm rm h1 hc fun v hv => (h3 v hv).trans (s v hv).symm
    refine ⟨by rw [List.mem_cons, List.mem_cons, i1, eq_comm, e, eq_comm (a := d)], ?_⟩
    rw [List.findIdx_cons, List.findIdx_cons, i2]
    by_cases q : x = c
    · rw [decide_eq_true q, decide_eq_true (e.mp q)]
    · rw [decide_eq_false q, decide_eq_false fun z => q (e.mpr z)]
theorem paired_app {α β : Type} {R : α → β → Prop} : ∀ {l1 : List α} {l2 : List β} {x : α} {y : β}, Paired R l1 l2 → R x y → Paired R (l1 ++ [x]) (l2 ++ [y])
  | _, _, _, _, .nil, h => .cons h .nil
  | _, _, _, _, .cons a t, h => .cons a (paired_app t h)
/-- rows of states that answer alike -/
theorem both_row (ls : M.ls = N.ls) (gm : Good M) (gn : Good N) (rm : Rep (EqM M) M.rows.length G) (rn : Rep (EqM N) N.rows.length F) :
    ∀ {w x : List Int}, Paired (fun z z' => M.St z ∧ N.St z' ∧ Sim M N z z') w x → ∀ {o u : List Int}, Both M N G F o u → Both M N G F (ordStep G w o) (ordStep F x u)
  | _, _, .nil, _, _, b => b
  | z :: w, z' :: x, .cons ⟨h1, h2, h3⟩ t, o, u, b => by
    obtain ⟨r1, s1⟩ := cls_rp gm rm h1
    obtain ⟨r2, s2⟩ := cls_rp gn rn h2
    have s : Sim M N (cls G z) (cls F z') := fun v hv => (s1 v hv).symm.trans ((h3 v hv).trans (s2 v (by rw [← ls]; exact hv)))
    obtain ⟨m1, _⟩ := both_mem ls gm gn rm rn r1 r2 s b
    refine both_row ls gm gn rm rn t (o := addC o (cls G z)) (u := addC u (cls F z')) ?_
    unfold addC
    by_cases c : cls G z ∈ o
    · rw [if_pos c, if_pos (m1.mp c)]
      exact b
    · rw [if_neg c, if_neg fun z => c (m1.mpr z)]
      exact paired_app b ⟨r1, r2, s⟩
theorem rows_sim (ls : M.ls = N.ls) (gm : Good M) (gn : Good N) {c d : Int} (hc : M.St c) (hd : N.St d) (s : Sim M N c d) : Paired (fun z z' => M.St z ∧ N.St z' ∧ Sim M N z z') (M.rows.getD c.toNat []) (N.rows.getD d.toNat []) := by
  obtain ⟨w, e1, e2, e3⟩ := gm.row hc
  obtain ⟨x, f1, f2, f3⟩ := gn.row hd
  rw [e3, f3]
  have lw := gm.rl w e2
  have lx := gn.rl x f2
  have key : ∀ (w x : List Int), w.length = x.length → (∀ i : Nat, i < w.length → ∃ p q, w[i]? = some p ∧ x[i]? = some q ∧ (M.St p ∧ N.St q ∧ Sim M N p q)) → Paired (fun z z' => M.St z ∧ N.St z' ∧ Sim M N z z') w x := by
    intro w
    induction w with
    | nil =>
      intro x l _
      cases x with
      | nil => exact .nil
      | cons _ _ => cases l
    | cons p w ih =>
      intro x l h
      cases x with
      | nil => cases l
      | cons q x =>
        obtain ⟨p', q', a, b, k⟩ := h 0 (by simp)
        cases a
        cases b
        exact .cons k (ih x (by simpa using l) fun i hi => h (i + 1) (by simpa using hi))
  refine key w x (by omega) fun i hi => ?_
  obtain ⟨st1, w1, a1, a2⟩ := gm.step hc (show (0 : Int) ≤ i by omega) (show (i : Int) < M.ls by omega)
  obtain ⟨st2, x1, b1, b2⟩ := gn.step hd (show (0 : Int) ≤ i by omega) (show (i : Int) < N.ls by omega)
  rw [e1] at a1
  cases a1
  rw [f1] at b1
  cases b1
  rw [show ((i : Int)).toNat = i by omega] at a2 b2
  exact ⟨_, _, a2, b2, st1, st2, s.step gm ls (by omega) (by omega)⟩
theorem paired_get {α β : Type} {R : α → β → Prop} : ∀ {l1 : List α} {l2 : List β} {i : Nat} {x : α}, Paired R l1 l2 → l1[i]? = some x → ∃ y, l2[i]? = some y ∧ R x y
  | _, _, 0, _, .cons h _, e => by
    cases e
    exact ⟨_, rfl, h⟩
  | _, _, i + 1, _, .cons _ t, e => paired_get (i := i) t e
  | _, _, 0, _, .nil, e => by cases e
  | _, _, i + 1, _, .nil, e => by cases e
/-- the orders of machines that answer alike go side by side -/
theorem both_ord (ls : M.ls = N.ls) (gm : Good M) (gn : Good N) (rm : Rep (EqM M) M.rows.length G) (rn : Rep (EqM N) N.rows.length F) (s : Sim M N 0 0) : ∀ k, Both M N G F (ordAt M G k) (ordAt N F k) := by
  intro k
  induction k with
  | zero =>
    obtain ⟨r1, s1⟩ := cls_rp gm rm gm.st0
    obtain ⟨r2, s2⟩ := cls_rp gn rn gn.st0
    exact .cons ⟨r1, r2, fun v hv => (s1 v hv).symm.trans ((s v hv).trans (s2 v (by rw [← ls]; exact hv)))⟩ .nil
  | succ k ih =>
    have len := Paired.length ih
    unfold ordAt
    by_cases c : k < (ordAt M G k).length
    · rw [if_pos c, if_pos (by omega)]
      have e := List.getElem?_eq_getElem c
      obtain ⟨y, e2, h1, h2, h3⟩ := paired_get ih e
      have g1 : (ordAt M G k).getD k 0 = (ordAt M G k)[k] := by
        rw [List.getD_eq_getElem?_getD, e]
        rfl
      have g2 : (ordAt N F k).getD k 0 = y := by
        rw [List.getD_eq_getElem?_getD, e2]
        rfl
      rw [g1, g2]
      exact both_row ls gm gn rm rn (rows_sim ls gm gn h1.1 h2.1 h3) ih
    · rw [if_neg c, if_neg (by omega)]
      exact ih
theorem paired_map {α β γ : Type} {R : α → β → Prop} {f : α → γ} {h : β → γ} : ∀ {l1 : List α} {l2 : List β}, Paired R l1 l2 → (∀ x y, R x y → f x = h y) → l1.map f = l2.map h
  | _, _, .nil, _ => rfl
  | _, _, .cons a t, k => by rw [List.map_cons, List.map_cons, k _ _ a, paired_map t k]
/-- machines that answer alike have the same least machine -/
theorem least_same (ls : M.ls = N.ls) (os : M.os = N.os) (gm : Good M) (gn : Good N) (rm : Rep (EqM M) M.rows.length G) (rn : Rep (EqM N) N.rows.length F) (s : Sim M N 0 0) (k : Nat) : leastBy M G (ordAt M G k) = leastBy N F (ordAt N F k) := by
  have b := both_ord ls gm gn rm rn s k
  unfold leastBy
  rw [ls, os]
  congr 1
  · refine paired_map b fun c d ⟨h1, h2, h3⟩ => paired_map (rows_sim ls gm gn h1.1 h2.1 h3) fun z z' ⟨q1, q2, q3⟩ => ?_
    obtain ⟨r1, s1⟩ := cls_rp gm rm q1
    obtain ⟨r2, s2⟩ := cls_rp gn rn q2
    have s' : Sim M N (cls G z) (cls F z') := fun v hv => (s1 v hv).symm.trans ((q3 v hv).trans (s2 v (by rw [← ls]; exact hv)))
    rw [(both_mem ls gm gn rm rn r1 r2 s' b).2]
  · exact paired_map b fun c d ⟨_, _, h3⟩ => h3 [] fun z hz => absurd hz (by simp)
end
end Mz
namespace Mz
open PySem PySem.Spec PyProof.Rows L2
section
variable {M : Mach} {G : List Int}
theorem addC_ok {o : List Int} {c : Int} (n : o.Nodup) : (addC o c).Nodup ∧ ∀ x, x ∈ addC o c ↔ x ∈ o ∨ x = c := by
  unfold addC
  by_cases h : c ∈ o
  · rw [if_pos h]
    exact ⟨n, fun x => ⟨.inl, fun z => z.elim id fun e => by rw [e]; exact h⟩⟩
  · rw [if_neg h]
    refine ⟨List.nodup_append.mpr ⟨n, by simp, fun a ha b hb e => ?_⟩, fun x => by rw [List.mem_append, List.mem_singleton]⟩
    rw [List.mem_singleton.mp hb] at e
    rw [e] at ha
    exact h ha
theorem ordStep_snoc (row : List Int) (z : Int) (o : List Int) : ordStep G (row ++ [z]) o = addC (ordStep G row o) (cls G z) := by
  unfold ordStep
  rw [List.foldl_append]
  rfl
theorem ordStep_ok (g : Good M) (r : Rep (EqM M) M.rows.length G) : ∀ {row o : List Int}, (∀ z ∈ row, M.St z) → o.Nodup → (∀ c ∈ o, IsRp M G c) → (ordStep G row o).Nodup ∧ (∀ c ∈ ordStep G row o, IsRp M G c) ∧ (∀ c ∈ o, c ∈ ordStep G row o) ∧ ∀ z ∈ row, cls G z ∈ ordStep G row o
  | [], o, _, n, k => ⟨n, k, fun _ h => h, fun z hz => absurd hz (by simp)⟩
  | z :: row, o, hz, n, k => by
    obtain ⟨a1, a2⟩ := addC_ok (c := cls G z) n
    obtain ⟨b1, b2, b3, b4⟩ := ordStep_ok g r (row := row) (o := addC o (cls G z)) (fun y hy => hz y (List.mem_cons_of_mem _ hy)) a1 fun c hc => by
      rcases (a2 c).mp hc with e | e
      · exact k c e
      · rw [e]
        exact (cls_rp g r (hz z List.mem_cons_self)).1
    refine ⟨b1, b2, fun c hc => b3 c ((a2 c).mpr (.inl hc)), fun y hy => ?_⟩
    rcases List.mem_cons.mp hy with e | e
    · rw [e]
      exact b3 _ ((a2 _).mpr (.inr rfl))
    · exact b4 y e
theorem row_st (g : Good M) {c : Int} (h : M.St c) : ∀ z ∈ M.rows.getD c.toNat [], M.St z := by
  obtain ⟨w, e1, e2, e3⟩ := g.row h
  rw [e3]
  exact fun z hz => g.rb w e2 z hz
theorem ord_ok (g : Good M) (r : Rep (EqM M) M.rows.length G) : ∀ k, (ordAt M G k).Nodup ∧ ∀ c ∈ ordAt M G k, IsRp M G c
  | 0 => ⟨by simp [ordAt], fun c hc => by rw [List.mem_singleton.mp hc]; exact (cls_rp g r g.st0).1⟩
  | k + 1 => by
    obtain ⟨n, h⟩ := ord_ok g r k
    unfold ordAt
    by_cases c : k < (ordAt M G k).length
    · rw [if_pos c]
      have e : (ordAt M G k).getD k 0 = (ordAt M G k)[k] := by
        rw [List.getD_eq_getElem?_getD, List.getElem?_eq_getElem c]
        rfl
      have q := ordStep_ok g r (row := M.rows.getD ((ordAt M G k).getD k 0).toNat []) (row_st g (by rw [e]; exact (h _ (List.getElem_mem c)).1)) n h
      exact ⟨q.1, q.2.1⟩
    · rw [if_neg c]
      exact ⟨n, h⟩
theorem ord_len (g : Good M) (r : Rep (EqM M) M.rows.length G) (k : Nat) : (ordAt M G k).length ≤ M.rows.length := by
  obtain ⟨n, h⟩ := ord_ok g r k
  have q := nodup_few M.rows.length ((ordAt M G k).map Int.toNat) ?_ ?_
  · rw [List.length_map] at q
    exact q
  · refine List.Pairwise.map _ ?_ (List.Pairwise.and_mem.mp n)
    rintro a b ⟨ha, hb, ne⟩ e
    have := (h a ha).1.1
    have := (h b hb).1.1
    exact ne (by omega)
  · intro x hx
    obtain ⟨c, hc, rfl⟩ := List.mem_map.mp hx
    have := (h c hc).1.1
    have := (h c hc).1.2
    omega
theorem ord_stop {k : Nat} (h : (ordAt M G k).length ≤ k) : ∀ j, k ≤ j → ordAt M G j = ordAt M G k := by
  intro j hj
  induction j with
  | zero => rw [show k = 0 by omega]
  | succ j ih =>
    by_cases c : k = j + 1
    · rw [c]
    · have e := ih (by omega)
      show (if j < (ordAt M G j).length then _ else ordAt M G j) = _
      rw [if_neg (by rw [e]; omega)]
      exact e
/-- when the place is the length, the order is whole -/
theorem ord_whole (g : Good M) (r : Rep (EqM M) M.rows.length G) {k : Nat} (h : (ordAt M G k).length ≤ k) : ordAt M G k = ordAt M G M.rows.length := by
  by_cases c : k ≤ M.rows.length
  · exact (ord_stop h _ c).symm
  · exact ord_stop (ord_len g r _) _ (by omega)
end
end Mz
namespace Mz
theorem ordStep_len {G : List Int} : ∀ (row o : List Int), (ordStep G row o).length ≤ o.length + row.length
  | [], o => Nat.le_refl _
  | z :: row, o => by
    have h := ordStep_len (G := G) row (addC o (cls G z))
    have : (addC o (cls G z)).length ≤ o.length + 1 := by
      unfold addC
      split
      · omega
      · rw [List.length_append, List.length_singleton]
        exact Nat.le_refl _
    rw [List.length_cons]
    show (ordStep G row (addC o (cls G z))).length ≤ _
    omega
end Mz
namespace Mz
open PySem PySem.Spec PyProof.Rows L2
/-- a dict comprehension over a walk -/
theorem dc_it {J : It} {n : Nat} {Gd : Hp → Prop} {Y : Nat → Hp → V → Hp → Prop} (wk : Walk J n Gd Y) {g : TG} {tt : TT} {tk tv : TE} {vs : List Nat} {σ : L2.St} {H1 : Hp} {D : Addr} {Qd : Hp → Prop} (Pv : Nat → Hp → Prop) (h0 : Pv 0 (upd H1 D (.dK []))) (hG : ∀ i H, i ≤ n → Pv i H → Gd H)
    (turn : ∀ i x H H', i < n → Pv i H → Y i H x H' → g x (wipe σ vs) H' fun σ2 H2 => wipe σ2 vs = wipe σ vs ∧ tt σ2 H2 fun b H3 =>
      if b = true then tk σ2 H3 fun y H4 => tv σ2 H4 fun z H5 => ∃ kvs k, y = kV k ∧ H5 D = some (.dK kvs) ∧ kvs.length < sizeLine ∧ Pv (i + 1) (upd H5 D (.dK (putK kvs k z))) else Pv (i + 1) H3) (last : ∀ H, Pv n H → Qd H) :
    ∃ W : Nat → Nat → Hp → Prop, (∃ m, W 0 m (upd H1 D (.dK []))) ∧ ∀ i m H, W i m H →
      (J.stop i H ∧ Qd H) ∨ (J.go i H ∧ ∃ Nx : Hp → Prop, (∀ H', Nx H' → ∃ m', m' < m ∧ W (i + 1) m' H') ∧ ∀ x H', J.yld i H x H' → g x (wipe σ vs) H' fun σ2 H2 => wipe σ2 vs = wipe σ vs ∧ tt σ2 H2 fun b H3 =>
        if b = true then tk σ2 H3 fun y H4 => tv σ2 H4 fun z H5 => ∃ kvs k, y = kV k ∧ H5 D = some (.dK kvs) ∧ kvs.length < sizeLine ∧ Nx (upd H5 D (.dK (putK kvs k z))) else Nx H3) := by
  refine ⟨fun i m H => m + i = n ∧ Pv i H, ⟨n, rfl, h0⟩, ?_⟩
  rintro i m H ⟨e, p⟩
  have q := hG i H (by omega) p
  cases m with
  | zero =>
    obtain rfl : i = n := by omega
    exact .inl ⟨wk.stops H q, last H p⟩
  | succ m => exact .inr ⟨wk.goes i H (by omega) q, Pv (i + 1), fun H' p' => ⟨m, by omega, by omega, p'⟩, fun x H' y => turn i x H H' (by omega) p (wk.yields i H x H' (by omega) q y)⟩
end Mz

set_option Elab.async false
set_option linter.all false
namespace Mz
open PySem PySem.Spec PyProof.Rows L2
section
variable {M N : Mach} {G F : List Int}
theorem addC_pre (o : List Int) (c : Int) : o <+: addC o c := by
  unfold addC
  split
  · exact List.prefix_refl _
  · exact List.prefix_append _ _
theorem ordStep_pre : ∀ (row o : List Int), o <+: ordStep G row o
  | [], o => List.prefix_refl _
  | z :: row, o => (addC_pre o (cls G z)).trans (ordStep_pre row (addC o (cls G z)))
theorem ord_pre1 (k : Nat) : ordAt M G k <+: ordAt M G (k + 1) := by
  show _ <+: (if k < (ordAt M G k).length then ordStep G (M.rows.getD ((ordAt M G k).getD k 0).toNat []) (ordAt M G k) else ordAt M G k)
  split
  · exact ordStep_pre _ _
  · exact List.prefix_refl _
theorem ord_pre (j : Nat) : ∀ d, ordAt M G j <+: ordAt M G (j + d)
  | 0 => List.prefix_refl _
  | d + 1 => (ord_pre j d).trans (ord_pre1 (j + d))
/-- what a class in the order leads to is in the order -/
theorem ord_closed (g : Good M) (r : Rep (EqM M) M.rows.length G) {c z : Int} (h : c ∈ ordAt M G M.rows.length) (hz : z ∈ M.rows.getD c.toNat []) : cls G z ∈ ordAt M G M.rows.length := by
  obtain ⟨i, hi, ei⟩ := List.mem_iff_getElem.mp h
  have ln := ord_len g r M.rows.length
  have li : i < (ordAt M G i).length := by
    refine Nat.lt_of_not_le fun q => ?_
    rw [ord_stop q M.rows.length (by omega)] at hi
    omega
  have pre := ord_pre (M := M) (G := G) i (M.rows.length - i)
  rw [show i + (M.rows.length - i) = M.rows.length by omega] at pre
  have pre1 := ord_pre (M := M) (G := G) (i + 1) (M.rows.length - (i + 1))
  rw [show (i + 1) + (M.rows.length - (i + 1)) = M.rows.length by omega] at pre1
  have eq : (ordAt M G i).getD i 0 = c := by
    obtain ⟨t, ht⟩ := pre
    rw [List.getD_eq_getElem?_getD, List.getElem?_eq_getElem li, ← ei]
    show (ordAt M G i)[i] = _
    have : (ordAt M G M.rows.length)[i]? = (ordAt M G i)[i]? := by rw [← ht, List.getElem?_append_left li]
    rw [List.getElem?_eq_getElem li, List.getElem?_eq_getElem hi] at this
    exact (Option.some.inj this).symm
  have nx : ordAt M G (i + 1) = ordStep G (M.rows.getD c.toNat []) (ordAt M G i) := by
    show (if i < (ordAt M G i).length then ordStep G (M.rows.getD ((ordAt M G i).getD i 0).toNat []) (ordAt M G i) else ordAt M G i) = _
    rw [if_pos li, eq]
  obtain ⟨nod, rps⟩ := ord_ok g r i
  have cst : M.St c := ((ord_ok g r M.rows.length).2 c h).1
  have := (ordStep_ok g r (row_st g cst) nod rps).2.2.2 z hz
  rw [← nx] at this
  exact pre1.subset this
end
end Mz

set_option Elab.async false
set_option linter.all false
namespace Mz
open PySem PySem.Spec PyProof.Rows L2
section
variable {M N : Mach} {G F : List Int}
/-- the place of a class in an order -/
def plc (o : List Int) (c : Int) : Nat := o.findIdx fun y => decide (y = c)
theorem plc_at {o : List Int} {c : Int} (h : c ∈ o) : plc o c < o.length ∧ o[plc o c]? = some c := by
  have l : o.findIdx (fun y => decide (y = c)) < o.length := List.findIdx_lt_length_of_exists ⟨c, h, decide_eq_true rfl⟩
  have e : o[o.findIdx (fun y => decide (y = c))] = c := of_decide_eq_true (List.findIdx_getElem (w := l))
  exact ⟨l, by show o[o.findIdx _]? = _; rw [List.getElem?_eq_getElem l, e]⟩
theorem leastBy_row {o : List Int} {i : Nat} {c : Int} (h : o[i]? = some c) : (leastBy M G o).rows[i]? = some ((M.rows.getD c.toNat []).map fun z => ((plc o (cls G z) : Nat) : Int)) := by
  show (o.map _)[i]? = _
  rw [List.getElem?_map, h]
  rfl
theorem leastBy_out {o : List Int} {i : Nat} {c : Int} (h : o[i]? = some c) : (leastBy M G o).out (i : Int) = M.out c := by
  show (o.map fun c => M.out c).getD ((i : Int)).toNat 0 = _
  rw [show ((i : Int)).toNat = i by omega, List.getD_eq_getElem?_getD, List.getElem?_map, h]
  rfl
theorem leastBy_len {o : List Int} : (leastBy M G o).rows.length = o.length := List.length_map ..
theorem leastBy_good (g : Good M) (r : Rep (EqM M) M.rows.length G) : Good (leastBy M G (ordAt M G M.rows.length)) := by
  have ln := ord_len g r M.rows.length
  have rps := (ord_ok g r M.rows.length).2
  refine ⟨g.l1, g.l4, g.o1, g.o6, ?_, ?_, ?_, ?_, ?_, ?_⟩
  · rw [leastBy_len]
    have p := ord_pre (M := M) (G := G) 0 M.rows.length
    have q := p.length_le
    rw [Nat.zero_add] at q
    exact q
  · rw [leastBy_len]
    have := g.s30
    omega
  · show (List.map _ _).length = (List.map _ _).length
    rw [List.length_map, List.length_map]
  · intro w hw
    obtain ⟨c, hc, rfl⟩ := List.mem_map.mp hw
    obtain ⟨w, e1, e2, e3⟩ := g.row (rps c hc).1
    rw [List.length_map, e3]
    exact g.rl w e2
  · intro w hw z hz
    obtain ⟨c, hc, rfl⟩ := List.mem_map.mp hw
    obtain ⟨y, hy, rfl⟩ := List.mem_map.mp hz
    have := (plc_at (ord_closed g r hc hy)).1
    rw [leastBy_len]
    show (0 : Int) ≤ (plc _ _ : Nat) ∧ ((plc _ _ : Nat) : Int) < _
    omega
  · intro z hz
    obtain ⟨c, hc, rfl⟩ := List.mem_map.mp hz
    exact (g.outp (rps c hc).1).2
theorem leastBy_walk (g : Good M) (r : Rep (EqM M) M.rows.length G) : ∀ (v : List Int) (x c : Int) (i : Nat), Lt M.ls v → M.St x → cls G x = c → (ordAt M G M.rows.length)[i]? = some c → M.out (M.run x v) = (leastBy M G (ordAt M G M.rows.length)).out ((leastBy M G (ordAt M G M.rows.length)).run i v)
  | [], x, c, i, _, hx, e, hi => by
    show M.out x = (leastBy M G (ordAt M G M.rows.length)).out i
    rw [leastBy_out hi, ← e]
    exact (cls_rp g r hx).2 [] (fun _ h => by cases h)
  | a :: v, x, c, i, hv, hx, e, hi => by
    obtain ⟨a0, a1⟩ := hv a List.mem_cons_self
    have hv' : Lt M.ls v := fun z hz => hv z (List.mem_cons_of_mem _ hz)
    have mc : c ∈ ordAt M G M.rows.length := List.mem_of_getElem? hi
    obtain ⟨rp, sm⟩ := cls_rp g r hx
    rw [e] at rp sm
    obtain ⟨sx, -⟩ := g.step hx a0 a1
    obtain ⟨sc, w, w1, w2⟩ := g.step rp.1 a0 a1
    have wg : M.rows.getD c.toNat [] = w := by
      rw [List.getD_eq_getElem?_getD, w1]
      rfl
    have eq : cls G (M.next x a) = cls G (M.next c a) := by
      obtain ⟨p1, p2⟩ := cls_rp g r sx
      obtain ⟨p3, p4⟩ := cls_rp g r sc
      refine rp_uniq g r p1 p3 fun u hu => ?_
      rw [← p2 u hu, ← p4 u hu]
      exact sm.step g rfl a0 a1 u hu
    have inn : cls G (M.next c a) ∈ ordAt M G M.rows.length := ord_closed g r mc (by rw [wg]; exact List.mem_of_getElem? w2)
    have nx : (leastBy M G (ordAt M G M.rows.length)).next i a = ((plc (ordAt M G M.rows.length) (cls G (M.next c a)) : Nat) : Int) := by
      show ((leastBy M G (ordAt M G M.rows.length)).rows.getD ((i : Int)).toNat []).getD a.toNat 0 = _
      have rg : (leastBy M G (ordAt M G M.rows.length)).rows.getD i [] = w.map fun z => ((plc (ordAt M G M.rows.length) (cls G z) : Nat) : Int) := by
        rw [List.getD_eq_getElem?_getD, leastBy_row hi, wg]
        rfl
      rw [show ((i : Int)).toNat = i by omega, rg, List.getD_eq_getElem?_getD, List.getElem?_map, w2]
      rfl
    show M.out (M.run (M.next x a) v) = (leastBy M G (ordAt M G M.rows.length)).out ((leastBy M G (ordAt M G M.rows.length)).run ((leastBy M G (ordAt M G M.rows.length)).next i a) v)
    rw [nx]
    exact leastBy_walk g r v (M.next x a) _ _ hv' sx eq (plc_at inn).2
theorem leastBy_sim (g : Good M) (r : Rep (EqM M) M.rows.length G) : Sim M (leastBy M G (ordAt M G M.rows.length)) 0 0 := fun v hv => by
  refine leastBy_walk g r v 0 (cls G 0) 0 hv g.st0 rfl ?_
  obtain ⟨t, ht⟩ := ord_pre (M := M) (G := G) 0 M.rows.length
  rw [Nat.zero_add] at ht
  rw [← ht]
  rfl
end
end Mz

set_option Elab.async false
set_option linter.all false
set_option maxRecDepth 100000
set_option maxHeartbeats 4000000
/-! parting words: their length; least machines and differences -/
namespace Mz
open PySem PySem.Spec PyProof.Rows L2
section
variable {M N : Mach} {G F : List Int}
theorem nopart_sim : NoPart M N (0, 0) ↔ Sim M N 0 0 := by
  constructor
  · intro h v hv
    have := h v hv
    unfold Bad at this
    rw [runP_pair] at this
    exact Classical.not_not.mp this
  · intro h v hv b
    unfold Bad at b
    rw [runP_pair] at b
    exact b (h v hv)
theorem part_isd (k : Kin M N) {p : Pr} {u : List Int} (h : Part M N p u) : IsD M N u.length p :=
  ⟨⟨u, h.lt, Nat.le_refl _, h.bad⟩, fun e he ⟨v, hv, le, b⟩ => by
    have h1 := h.min v hv b
    have h2 := code_short k.gm.l4 (u := v) (v := u) hv (by omega)
    omega⟩
theorem part_both (k : Kin M N) {p : Pr} (hp : InP M N p) {u : List Int} (h : Part M N p u) : u.length + 2 ≤ M.rows.length + N.rows.length := few_rounds k hp (part_isd k h)
/-- within one machine a parting word has fewer letters than there are states -/
theorem part_short (g : Good M) {p : Pr} (hp : InP M M p) {u : List Int} (h : Part M M p u) : u.length + 1 ≤ M.rows.length := by
  have k : Kin M M := ⟨g, g, rfl⟩
  have n1 := g.s1
  refine fine_few (n := M.rows.length) (d := u.length) (R := RM M) (by omega) (eqv_RM M M.rows.length) (fun t x y h v a b => h v a (by omega)) (fun e he => ?_)
  obtain ⟨q, hq, ⟨⟨v, hv, lv, bv⟩, no⟩⟩ := isd_all k hp (part_isd k h) (e + 1) he
  have q1 := hq.1
  have q2 := hq.2
  have a1 := q1.1
  have a2 := q1.2
  have b1 := q2.1
  have b2 := q2.2
  refine ⟨q.1.toNat, q.2.toNat, by omega, by omega, fun w hw lw => ?_, fun z => ?_⟩
  · rw [show ((q.1.toNat : Nat) : Int) = q.1 by omega, show ((q.2.toNat : Nat) : Int) = q.2 by omega]
    refine Classical.byContradiction fun n => no e (by omega) ⟨w, hw, lw, ?_⟩
    unfold Bad
    rw [runP_pair]
    exact n
  · have := z v hv lv
    rw [show ((q.1.toNat : Nat) : Int) = q.1 by omega, show ((q.2.toNat : Nat) : Int) = q.2 by omega] at this
    unfold Bad at bv
    rw [runP_pair] at bv
    exact bv this
/-- two states of a least machine are parted -/
theorem least_parts (g : Good M) (r : Rep (EqM M) M.rows.length G) {i j : Int} (hi : (leastBy M G (ordAt M G M.rows.length)).St i) (hj : (leastBy M G (ordAt M G M.rows.length)).St j) (ne : i ≠ j) :
    ∃ u, Part (leastBy M G (ordAt M G M.rows.length)) (leastBy M G (ordAt M G M.rows.length)) (i, j) u := by
  rcases part_or (M := leastBy M G (ordAt M G M.rows.length)) (N := leastBy M G (ordAt M G M.rows.length)) (p := (i, j)) with h | h
  · exact h
  · exfalso
    have i0 := hi.1
    have i1 := hi.2
    have j0 := hj.1
    have j1 := hj.2
    rw [leastBy_len] at i1 j1
    obtain ⟨nod, rps⟩ := ord_ok g r M.rows.length
    have ei := List.getElem?_eq_getElem (show i.toNat < (ordAt M G M.rows.length).length by omega)
    have ej := List.getElem?_eq_getElem (show j.toNat < (ordAt M G M.rows.length).length by omega)
    have ri := rps _ (List.mem_of_getElem? ei)
    have rj := rps _ (List.mem_of_getElem? ej)
    have s : Sim M M (ordAt M G M.rows.length)[i.toNat] (ordAt M G M.rows.length)[j.toNat] := fun v hv => by
      rw [leastBy_walk g r v _ _ i.toNat hv ri.1 ri.2 ei, leastBy_walk g r v _ _ j.toNat hv rj.1 rj.2 ej]
      have b := h v hv
      unfold Bad at b
      rw [runP_pair] at b
      have b := Classical.not_not.mp b
      rw [show ((i.toNat : Nat) : Int) = i by omega, show ((j.toNat : Nat) : Int) = j by omega]
      exact b
    have e := rp_uniq g r ri rj s
    have := (List.getElem?_inj (show i.toNat < (ordAt M G M.rows.length).length by omega) nod).mp (ei.trans (by rw [e]; exact ej.symm))
    omega
/-- the same words part machines that answer alike -/
theorem part_move {M' N' : Mach} (ls : M'.ls = M.ls) (ls2 : N'.ls = N.ls) (k : Kin M N) (s : Sim M M' 0 0) (t : Sim N N' 0 0) {u : List Int} (h : Part M N (0, 0) u) : Part M' N' (0, 0) u := by
  have e : ∀ v, Lt M.ls v → (Bad M N (runP M N (0, 0) v) ↔ Bad M' N' (runP M' N' (0, 0) v)) := fun v hv => by
    unfold Bad
    rw [runP_pair, runP_pair]
    show M.out (M.run 0 v) ≠ N.out (N.run 0 v) ↔ M'.out (M'.run 0 v) ≠ N'.out (N'.run 0 v)
    rw [s v hv, t v (by rw [← k.ls]; exact hv)]
  exact ⟨by rw [ls]; exact h.lt, (e u h.lt).mp h.bad, fun v hv b => h.min v (by rw [← ls]; exact hv) ((e v (by rw [← ls]; exact hv)).mpr b)⟩
end
/-! ### == of machines, both ways -/
theorem eqv_rows : ∀ rs qs : List (List Int), PyData.eqvAll (rs.map dRow) (qs.map dRow) = decide (rs = qs)
  | [], [] => by simp [PyData.eqvAll]
  | [], _ :: _ => by simp [PyData.eqvAll]
  | _ :: _, [] => by simp [PyData.eqvAll]
  | r :: rs, q :: qs => by
    have e : PyData.eqv (dRow r) (dRow q) = decide (r = q) := by
      unfold dRow
      rw [PyData.eqv, eqv_ints]
    rw [List.map_cons, List.map_cons, PyData.eqvAll, eqv_rows rs qs, e]
    by_cases h : r = q
    · subst h
      by_cases h2 : rs = qs <;> simp [h2]
    · simp [h]
theorem eqv_mach (A B : Mach) : (PyData.eqv (dMach A) (dMach B) = true) ↔ A = B := by
  constructor
  · intro h
    unfold dMach at h
    rw [PyData.eqv, PyData.eqvAll, PyData.eqvAll, PyData.eqvAll, PyData.eqvAll, PyData.eqvAll] at h
    simp only [Bool.and_eq_true] at h
    obtain ⟨h1, h2, h3, h4, _⟩ := h
    have e1 : A.ls = B.ls := by simpa [PyData.eqv] using h1
    have e2 : A.os = B.os := by simpa [PyData.eqv] using h2
    have e3 : A.rows = B.rows := by
      rw [PyData.eqv, eqv_rows] at h3
      exact of_decide_eq_true h3
    have e4 : A.outs = B.outs := by
      unfold dRow at h4
      rw [PyData.eqv, eqv_ints] at h4
      exact of_decide_eq_true h4
    cases A
    cases B
    simp at e1 e2 e3 e4
    subst e1 e2 e3 e4
    rfl
  · intro h
    rw [h]
    exact SeqAt.eqv_refl _ (lay_mach B)
section
variable {K : PySem.W.Frag} {H : Hp} {a b : Addr} {A B : Mach} {Q : VK}
theorem eq_machB (h1 : MA H a A) (h2 : MA H b B) (q : ∀ c : Bool, (c = true ↔ A = B) → Q (.bl c) H) : rEqD K (.ref a) (.ref b) H Q :=
  ⟨_, _, dp_mach h1, dp_mach h2, shaped_mach A, shaped_mach B, q _ (eqv_mach A B)⟩
end
end Mz

set_option Elab.async false
set_option linter.all false
set_option maxRecDepth 100000
set_option maxHeartbeats 4000000
/-! lists of pairs of ints, lists of lists of ints: not in, ==, != -/
namespace Mz
open PySem PySem.Spec PyProof.Rows L2
def lsP (p : Pr) : List Int := [p.1, p.2]
theorem lsP_inj {p q : Pr} : lsP p = lsP q ↔ p = q := by
  constructor
  · intro h
    have h : [p.1, p.2] = [q.1, q.2] := h
    injection h with a b
    injection b with b c
    exact Prod.ext a b
  · rintro rfl
    rfl
theorem lsP_map {D E : List Pr} : D.map lsP = E.map lsP ↔ D = E := by
  constructor
  · intro h
    induction D generalizing E with
    | nil => cases E with
      | nil => rfl
      | cons => cases h
    | cons x D ih => cases E with
      | nil => cases h
      | cons y E =>
        rw [List.map_cons, List.map_cons] at h
        injection h with a b
        rw [lsP_inj.mp a, ih b]
  · rintro rfl
    rfl
theorem shaped_rows (D : List (List Int)) : SeqAt.shaped (.list (D.map dRow)) = true := by
  have h1 := depth_rows D
  have h3 : PyData.depth (.list (D.map dRow)) ≤ 64 := by
    simp only [PyData.depth]
    omega
  have h4 : PyData.canLay0 (.list (D.map dRow)) = true := by
    simp only [PyData.canLay0]
    exact lay_rows D
  show (PyData.canLay0 _ && decide (PyData.depth _ ≤ 64)) = true
  rw [h4, decide_eq_true h3]
  rfl
theorem shaped_row (w : List Int) : SeqAt.shaped (dRow w) = true := by
  have h1 := depthI w
  have h3 : PyData.depth (dRow w) ≤ 64 := by
    unfold dRow
    simp only [PyData.depth]
    omega
  have h4 : PyData.canLay0 (dRow w) = true := by
    unfold dRow
    simp only [PyData.canLay0]
    exact lay_ints w
  show (PyData.canLay0 _ && decide (PyData.depth _ ≤ 64)) = true
  rw [h4, decide_eq_true h3]
  rfl
theorem eqv_row (a b : List Int) : PyData.eqv (dRow a) (dRow b) = decide (a = b) := by
  unfold dRow
  rw [PyData.eqv, eqv_ints]
theorem any_rows (D : List (List Int)) (w : List Int) : ((D.map dRow).any fun z => PyData.eqv z (dRow w)) = decide (w ∈ D) := by
  rw [List.any_map, Bool.eq_iff_iff, List.any_eq_true, decide_eq_true_iff]
  constructor
  · rintro ⟨x, hx, h⟩
    have : PyData.eqv (dRow x) (dRow w) = true := h
    rw [eqv_row] at this
    rw [← of_decide_eq_true this]
    exact hx
  · intro h
    exact ⟨w, h, by show PyData.eqv (dRow w) (dRow w) = true; rw [eqv_row]; exact decide_eq_true rfl⟩
/-- a list of pairs -/
def PrL (H : Hp) (ts : List Addr) (D : List Pr) : Prop := ts.length = D.length ∧ ∀ (i : Nat) (a : Addr) (p : Pr), ts[i]? = some a → D[i]? = some p → H a = some (.tup [.int p.1, .int p.2])
theorem PrL.same {H H' : Hp} {ts : List Addr} {D : List Pr} (h : PrL H ts D) (s : Same H H') : PrL H' ts D := ⟨h.1, fun i a w h1 h2 => s _ _ (h.2 i a w h1 h2)⟩
theorem dp_prs {K : PySem.W.Frag} {H : Hp} {p : Addr} {ts : List Addr} {D : List Pr} (hp : H p = some (.lst (ts.map V.ref))) (h : PrL H ts D) : Dp K H (.ref p) (.list ((D.map lsP).map dRow)) := by
  refine .lst (SqL.of hp) (dp_rows ts (D.map lsP) (by rw [List.length_map]; exact h.1) fun i r w a b => ?_)
  obtain ⟨q, hq, rfl⟩ : ∃ q, D[i]? = some q ∧ w = lsP q := by
    rw [List.getElem?_map] at b
    cases e : D[i]? with
    | none => rw [e] at b; cases b
    | some q => rw [e] at b; exact ⟨q, rfl, (Option.some.inj b).symm⟩
  exact h.2 i r q a hq
section
variable {K : PySem.W.Frag} {H : Hp} {a b p r : Addr} {as bs ts us : List Addr} {D E : List Pr} {Va Wa : List (List Int)} {x : Pr} {Q : VK}
theorem notin_prs (hr : H r = some (.tup [.int x.1, .int x.2])) (hp : H p = some (.lst (ts.map V.ref))) (h : PrL H ts D) (q : Q (.bl (!decide (x ∈ D))) H) : rNotInD K (.ref r) (.ref p) H Q := by
  refine ⟨dRow (lsP x), (D.map lsP).map dRow, .tup (SqT.of hr) (dp_ints (lsP x)), dp_prs hp h, shaped_row _, shaped_rows _, ?_⟩
  rw [any_rows]
  have e : decide (lsP x ∈ D.map lsP) = decide (x ∈ D) := by
    rw [decide_eq_decide, List.mem_map]
    exact ⟨fun ⟨y, h1, h2⟩ => by rw [← lsP_inj.mp h2]; exact h1, fun h => ⟨x, h, rfl⟩⟩
  rw [e]
  exact q
theorem eqv_prs (D E : List Pr) : PyData.eqv (.list ((D.map lsP).map dRow)) (.list ((E.map lsP).map dRow)) = decide (D = E) := by
  rw [PyData.eqv, eqv_rows, decide_eq_decide]
  exact lsP_map
theorem ne_prs (ha : H a = some (.lst (ts.map V.ref))) (h1 : PrL H ts D) (hb : H b = some (.lst (us.map V.ref))) (h2 : PrL H us E) (q : Q (.bl (!decide (D = E))) H) : rNeD K (.ref a) (.ref b) H Q :=
  ⟨_, _, dp_prs ha h1, dp_prs hb h2, shaped_rows _, shaped_rows _, by rw [eqv_prs]; exact q⟩
theorem eqv_lls : ∀ rs qs : List (List Int), PyData.eqvAll (rs.map dLst) (qs.map dLst) = decide (rs = qs)
  | [], [] => by simp [PyData.eqvAll]
  | [], _ :: _ => by simp [PyData.eqvAll]
  | _ :: _, [] => by simp [PyData.eqvAll]
  | r :: rs, q :: qs => by
    have e : PyData.eqv (dLst r) (dLst q) = decide (r = q) := eqv_l r q
    rw [List.map_cons, List.map_cons, PyData.eqvAll, eqv_lls rs qs, e]
    by_cases h : r = q
    · subst h
      by_cases h2 : rs = qs <;> simp [h2]
    · simp [h]
theorem eqv_ll (D E : List (List Int)) : PyData.eqv (dLL D) (dLL E) = decide (D = E) := by
  unfold dLL
  rw [PyData.eqv, eqv_lls]
theorem ne_lls (ha : H a = some (.lst (as.map V.ref))) (h1 : LL H as Va) (hb : H b = some (.lst (bs.map V.ref))) (h2 : LL H bs Wa) (q : Q (.bl (!decide (Va = Wa))) H) : rNeD K (.ref a) (.ref b) H Q :=
  ⟨_, _, dp_ll ha h1, dp_ll hb h2, shaped_ll _, shaped_ll _, by rw [eqv_ll]; exact q⟩
theorem eq_lls (ha : H a = some (.lst (as.map V.ref))) (h1 : LL H as Va) (hb : H b = some (.lst (bs.map V.ref))) (h2 : LL H bs Wa) (q : Q (.bl (decide (Va = Wa))) H) : rEqD K (.ref a) (.ref b) H Q :=
  ⟨_, _, dp_ll ha h1, dp_ll hb h2, shaped_ll _, shaped_ll _, by rw [eqv_ll]; exact q⟩
end
end Mz

set_option Elab.async false
set_option linter.all false
/-! any walk, whatever a turn asks -/
namespace Mz
open PySem PySem.Spec PyProof.Rows L2
theorem it_any {J : It} {n : Nat} {G : Hp → Prop} {Y : Nat → Hp → V → Hp → Prop} (w : Walk J n G Y) {C : V → Hp → (Hp → Prop) → Prop} {E : Hp → Prop} {Hs : Hp} (Pv : Nat → Hp → Prop) (start : Pv 0 Hs) (still : ∀ i H, i ≤ n → Pv i H → G H)
    (turn : ∀ i x H H', i < n → Pv i H → Y i H x H' → C x H' (Pv (i + 1))) (done : ∀ H, Pv n H → E H) :
    ∃ W1 : Nat → Nat → Hp → Prop, (∃ m, W1 0 m Hs) ∧ ∀ j k H, W1 j k H → (J.stop j H ∧ E H) ∨ (J.go j H ∧ ∃ Nx1 : Hp → Prop, (∀ H', Nx1 H' → ∃ k', k' < k ∧ W1 (j + 1) k' H') ∧ ∀ x H', J.yld j H x H' → C x H' Nx1) := by
  refine ⟨fun j k H => k + j = n ∧ Pv j H, ⟨n, rfl, start⟩, fun j k H ⟨e, p⟩ => ?_⟩
  by_cases c : k = 0
  · have e : j = n := by omega
    subst e
    exact .inl ⟨w.stops H (still _ H (Nat.le_refl _) p), done H p⟩
  · have lt : j < n := by omega
    have gH := still j H (by omega) p
    exact .inr ⟨w.goes j H lt gH, Pv (j + 1), fun H' p' => ⟨k - 1, by omega, by omega, p'⟩, fun x H' y => turn j x H H' lt p (w.yields j H x H' lt gH y)⟩
end Mz

set_option Elab.async false
set_option linter.all false
set_option maxRecDepth 100000
set_option maxHeartbeats 4000000
/-! all words of a length, in their order; dicts whose keys are words -/
namespace Mz
open PySem PySem.Spec PyProof.Rows L2
def moreW (L : Nat) (w : List Int) : List (List Int) := (List.range L).map fun a : Nat => w ++ [(a : Int)]
def allW (L : Nat) : Nat → List (List Int)
  | 0 => [[]]
  | n + 1 => (allW L n).flatMap (moreW L)
theorem moreW_len {L : Nat} {w : List Int} : (moreW L w).length = L := by
  unfold moreW
  rw [List.length_map, List.length_range]
theorem flat_len {L : Nat} : ∀ ws : List (List Int), (ws.flatMap (moreW L)).length = ws.length * L
  | [] => by simp
  | w :: ws => by
    rw [List.flatMap_cons, List.length_append, moreW_len, flat_len ws, List.length_cons, Nat.succ_mul, Nat.add_comm]
theorem allW_len {L : Nat} : ∀ n, (allW L n).length = L ^ n
  | 0 => rfl
  | n + 1 => by
    show ((allW L n).flatMap (moreW L)).length = _
    rw [flat_len, allW_len n, Nat.pow_succ]
theorem allW_mem {L : Nat} : ∀ {n : Nat} {w : List Int}, w ∈ allW L n ↔ w.length = n ∧ Lt (L : Int) w
  | 0, w => by
    show w ∈ [[]] ↔ _
    rw [List.mem_singleton]
    constructor
    · rintro rfl
      exact ⟨rfl, fun z hz => absurd hz (by simp)⟩
    · rintro ⟨h, _⟩
      exact List.length_eq_zero_iff.mp h
  | n + 1, w => by
    show w ∈ (allW L n).flatMap (moreW L) ↔ _
    rw [List.mem_flatMap]
    constructor
    · rintro ⟨u, hu, hw⟩
      obtain ⟨a, ha, rfl⟩ := List.mem_map.mp hw
      obtain ⟨h1, h2⟩ := allW_mem.mp hu
      have := List.mem_range.mp ha
      exact ⟨by rw [List.length_append, h1]; rfl, lt_snoc.mpr ⟨h2, by omega, by omega⟩⟩
    · rintro ⟨h1, h2⟩
      rcases List.eq_nil_or_concat w with e | ⟨u, a, e⟩
      · rw [e] at h1
        cases h1
      · have e : w = u ++ [a] := by rw [e, List.concat_eq_append]
        subst e
        obtain ⟨q1, q2, q3⟩ := lt_snoc.mp h2
        rw [List.length_append] at h1
        refine ⟨u, allW_mem.mpr ⟨by simpa using h1, q1⟩, List.mem_map.mpr ⟨a.toNat, List.mem_range.mpr (by omega), ?_⟩⟩
        rw [show ((a.toNat : Nat) : Int) = a by omega]
theorem moreW_nodup {L : Nat} {w : List Int} : (moreW L w).Nodup := by
  unfold moreW
  refine List.Pairwise.map _ (fun a b h e => h ?_) List.nodup_range
  have := List.append_cancel_left e
  injection this with this
  omega
theorem allW_nodup {L : Nat} : ∀ n, (allW L n).Nodup
  | 0 => by show ([[]] : List (List Int)).Nodup; simp
  | n + 1 => by
    show ((allW L n).flatMap (moreW L)).Nodup
    have := allW_nodup (L := L) n
    generalize allW L n = ws at this
    induction ws with
    | nil => simp
    | cons w ws ih =>
      obtain ⟨h1, h2⟩ := List.nodup_cons.mp this
      rw [List.flatMap_cons]
      refine List.nodup_append.mpr ⟨moreW_nodup, ih h2, ?_⟩
      rintro x hx y hy rfl
      obtain ⟨a, ha, rfl⟩ := List.mem_map.mp hx
      obtain ⟨u, hu, hy⟩ := List.mem_flatMap.mp hy
      obtain ⟨b, hb, e⟩ := List.mem_map.mp hy
      have e2 := (List.append_inj' e rfl).1
      rw [e2] at hu
      exact h1 hu
theorem allW_head {L : Nat} (hL : 0 < L) : ∀ n, ∃ r, allW L n = List.replicate n (0 : Int) :: r
  | 0 => ⟨[], rfl⟩
  | n + 1 => by
    obtain ⟨r, e⟩ := allW_head hL n
    obtain ⟨m, rfl⟩ : ∃ m, L = m + 1 := ⟨L - 1, by omega⟩
    have e2 : moreW (m + 1) (List.replicate n (0 : Int)) = (List.replicate (n + 1) (0 : Int)) :: ((List.range m).map Nat.succ).map fun a : Nat => List.replicate n (0 : Int) ++ [(a : Int)] := by
      unfold moreW
      rw [List.range_succ_eq_map, List.map_cons, List.replicate_succ']
      rfl
    refine ⟨((List.range m).map Nat.succ).map (fun a : Nat => List.replicate n (0 : Int) ++ [(a : Int)]) ++ r.flatMap (moreW (m + 1)), ?_⟩
    show (allW (m + 1) n).flatMap (moreW (m + 1)) = _
    rw [e, List.flatMap_cons, e2, List.cons_append]
/-- a word as a key -/
def keyW (w : List Int) : List L2.Key := w.map Sum.inl
theorem keyW_inj {u v : List Int} (h : keyW u = keyW v) : u = v := by
  unfold keyW at h
  induction u generalizing v with
  | nil =>
    cases v with
    | nil => rfl
    | cons _ _ => cases h
  | cons a u ih =>
    cases v with
    | nil => cases h
    | cons b v =>
      injection h with h1 h2
      injection h1 with h1
      rw [h1, ih h2]
theorem keyW_V (w : List Int) : (keyW w).map kV = w.map V.int := by
  unfold keyW
  rw [List.map_map]
  rfl
/-- words with the value True -/
def kvsW (ws : List (List Int)) : List (List L2.Key × V) := ws.map fun w => (keyW w, V.bl true)
theorem kvsW_len {ws : List (List Int)} : (kvsW ws).length = ws.length := List.length_map ..
theorem valW {ws : List (List Int)} {w : List Int} : valV (kvsW ws) (keyW w) = if w ∈ ws then some (.bl true) else none := by
  induction ws with
  | nil => rfl
  | cons u ws ih =>
    show valV ((keyW u, V.bl true) :: kvsW ws) (keyW w) = _
    by_cases e : u = w
    · subst e
      rw [valV_pos rfl, if_pos List.mem_cons_self]
    · rw [valV_neg (fun z => e (keyW_inj z)), ih]
      by_cases h : w ∈ ws
      · rw [if_pos h, if_pos (List.mem_cons_of_mem _ h)]
      · rw [if_neg h, if_neg fun z => (List.mem_cons.mp z).elim (fun q => e q.symm) h]
theorem dropW {ws : List (List Int)} {w : List Int} : dropK (kvsW ws) (keyW w) = kvsW (ws.filter fun u => decide (u ≠ w)) := by
  induction ws with
  | nil => rfl
  | cons u ws ih =>
    show dropK ((keyW u, V.bl true) :: kvsW ws) (keyW w) = _
    unfold dropK at ih ⊢
    by_cases e : u = w
    · subst e
      rw [List.filter_cons_of_neg (by simp), ih, List.filter_cons_of_neg (by simp)]
    · rw [List.filter_cons_of_pos (by simpa using fun z => e (keyW_inj z)), ih, List.filter_cons_of_pos (by simpa using e)]
      rfl
theorem putW {ws : List (List Int)} {w : List Int} (h : w ∉ ws) : putK (kvsW ws) (keyW w) (.bl true) = kvsW (ws ++ [w]) := by
  rw [putK_new _ (by rw [valW, if_neg h])]
  unfold kvsW
  rw [List.map_append]
  rfl
/-- tuples of ints, by their addresses -/
def TupL (H : Hp) (ts : List Addr) (ws : List (List Int)) : Prop := ts.length = ws.length ∧ ∀ (i : Nat) (a : Addr) (w : List Int), ts[i]? = some a → ws[i]? = some w → IT H a w
theorem TupL.same {H H' : Hp} {ts : List Addr} {ws : List (List Int)} (h : TupL H ts ws) (s : Same H H') : TupL H' ts ws := ⟨h.1, fun i a w p q => s _ _ (h.2 i a w p q)⟩
theorem TupL.nil {H : Hp} : TupL H [] [] := ⟨rfl, fun i a w h => by simp at h⟩
theorem TupL.snoc {H : Hp} {ts : List Addr} {ws : List (List Int)} {t : Addr} {w : List Int} (h : TupL H ts ws) (e : IT H t w) : TupL H (ts ++ [t]) (ws ++ [w]) := by
  refine ⟨by rw [List.length_append, List.length_append, h.1]; rfl, fun i a u p q => ?_⟩
  rcases get_app q with y | ⟨y1, y2⟩
  · rcases get_app p with v | ⟨v1, v2⟩
    · exact h.2 i a u v y
    · have := (List.getElem?_eq_some_iff.mp y).1
      rw [← h.1] at this
      omega
  · rcases get_app p with v | ⟨v1, v2⟩
    · have := (List.getElem?_eq_some_iff.mp v).1
      rw [h.1] at this
      omega
    · rw [v2, y2]
      exact e
theorem TupL.push {H : Hp} {ts : List Addr} {ws : List (List Int)} {D t : Addr} {w : List Int} {vs : List V} (h : TupL H ts ws) (hD : H D = some (.lst vs)) (e : IT H t w) {o : HO} : TupL (upd H D o) (ts ++ [t]) (ws ++ [w]) := by
  have nt : ∀ {x : Addr} {u : List Int}, IT H x u → x ≠ D := fun h z => by
    unfold IT at h
    rw [z, hD] at h
    cases h
  have k := h.snoc e
  exact ⟨k.1, fun i a u p q => (upd_ne (nt (k.2 i a u p q))).trans (k.2 i a u p q)⟩
end Mz

set_option Elab.async false
set_option linter.all false
set_option maxRecDepth 100000
set_option maxHeartbeats 4000000
/-! small things: ifs, f-strings of small ints, places of lists -/
namespace Mz
open PySem PySem.Spec PyProof.Rows L2
theorem js_4 {t1 t2 : TE} {z1 z2 : Str} {i1 i2 : Int} {σ : L2.St} {H : Hp} {Q : Str → Hp → Prop} (h1 : ∀ {Q : VK}, Q (.int i1) H → t1 σ H Q) (h2 : ∀ {Q : VK}, Q (.int i2) H → t2 σ H Q) (b1 : i1.natAbs < 2 ^ 64) (b2 : i2.natAbs < 2 ^ 64) (l1 : z1.length ≤ 100) (l2 : z2.length ≤ 100)
    (k : ∀ out, Q out H) : tJs [tC (.str z1), tFmt t1, tC (.str z2), tFmt t2] Str.empty σ H Q := by
  have i1' := int_text_len_1921 (log_small b1)
  have i2' := int_text_len_1921 (log_small b2)
  refine ⟨z1, rfl, ?_, ?_⟩
  · rw [PySem.Str.length_append, sizeLine_eq]
    show 0 + z1.length ≤ _
    omega
  refine h1 (.inr ⟨i1, rfl, log_small b1, _, rfl, ?_, z2, rfl, ?_, ?_⟩)
  · rw [PySem.Str.length_append, PySem.Str.length_append, sizeLine_eq]
    show 0 + z1.length + _ ≤ _
    omega
  · rw [PySem.Str.length_append, PySem.Str.length_append, PySem.Str.length_append, sizeLine_eq]
    show 0 + z1.length + _ + _ ≤ _
    omega
  refine h2 (.inr ⟨i2, rfl, log_small b2, _, rfl, ?_, k _⟩)
  rw [PySem.Str.length_append, PySem.Str.length_append, PySem.Str.length_append, PySem.Str.length_append, sizeLine_eq]
  show 0 + z1.length + _ + _ + _ ≤ _
  omega
theorem js_2 {t1 : TE} {z1 : Str} {i1 : Int} {σ : L2.St} {H : Hp} {Q : Str → Hp → Prop} (h1 : ∀ {Q : VK}, Q (.int i1) H → t1 σ H Q) (b1 : i1.natAbs < 2 ^ 64) (l1 : z1.length ≤ 100)
    (k : ∀ out, Q out H) : tJs [tC (.str z1), tFmt t1] Str.empty σ H Q := by
  have i1' := int_text_len_1921 (log_small b1)
  refine ⟨z1, rfl, ?_, ?_⟩
  · rw [PySem.Str.length_append, sizeLine_eq]
    show 0 + z1.length ≤ _
    omega
  refine h1 (.inr ⟨i1, rfl, log_small b1, _, rfl, ?_, k _⟩)
  rw [PySem.Str.length_append, PySem.Str.length_append, sizeLine_eq]
  show 0 + z1.length + _ ≤ _
  omega
theorem iteN2 {c A B : Prop} [Decidable c] (h1 : ¬ c → A) (h2 : c → B) : if (!decide c) = true then A else B := by
  by_cases h : c
  · rw [if_neg (by simp [h])]
    exact h2 h
  · rw [if_pos (by simp [h])]
    exact h1 h
theorem iteB {b : Bool} {A B : Prop} (h1 : b = false → A) (h2 : b = true → B) : if (!b) = true then A else B := by
  cases b with
  | false => exact h1 rfl
  | true => exact h2 rfl
theorem iteT0 {A B : Prop} (h : A) : if (!false) = true then A else B := by
  exact h
theorem ixN_in {n : Nat} {k : Int} (h0 : 0 ≤ k) (h1 : k < n) : ixN n k = some k.toNat := by
  unfold ixN
  rw [if_pos h0, if_pos h1]
theorem lit_at {ns : List Int} {i : Int} (h0 : 0 ≤ i) (h1 : i < ns.length) : ∃ x ∈ ns, atI (ns.map V.int) i = some (.int x) := by
  have lt : i.toNat < ns.length := by omega
  exact ⟨ns[i.toNat], List.getElem_mem lt, atI_get? h0 (List.getElem?_eq_getElem lt)⟩
def tInv (I J : L2.St → Hp → Prop) : TS := fun D σ H => I σ H ∧ ∀ σ' H', J σ' H' → D.nx σ' H'
theorem cut_ints (ns : List Int) (lo hi : Option Int) : ∃ ms : List Int, cutV (ns.map V.int) lo hi = ms.map V.int ∧ ms.length ≤ ns.length := by
  refine ⟨(ns.drop (HT.sIx ns.length 0 lo)).take (HT.sIx ns.length ns.length hi - HT.sIx ns.length 0 lo), ?_, ?_⟩
  · unfold cutV
    rw [List.length_map, List.map_take, List.map_drop]
  · rw [List.length_take, List.length_drop]
    omega
end Mz

set_option Elab.async false
set_option linter.all false
set_option maxRecDepth 100000
set_option maxHeartbeats 4000000
/-! small things: f-strings, sums and slices of tuples, fields of objects, all but one thing as it was -/
namespace Mz
open PySem PySem.Spec PyProof.Rows L2
theorem js_3 {t1 : TE} {z1 z2 : Str} {i1 : Int} {σ : L2.St} {H : Hp} {Q : Str → Hp → Prop} (h1 : ∀ {Q : VK}, Q (.int i1) H → t1 σ H Q) (b1 : i1.natAbs < 2 ^ 64) (l1 : z1.length ≤ 100) (l2 : z2.length ≤ 100)
    (k : ∀ out, Q out H) : tJs [tC (.str z1), tFmt t1, tC (.str z2)] Str.empty σ H Q := by
  have i1' := int_text_len_1921 (log_small b1)
  refine ⟨z1, rfl, ?_, ?_⟩
  · rw [PySem.Str.length_append, sizeLine_eq]
    show 0 + z1.length ≤ _
    omega
  refine h1 (.inr ⟨i1, rfl, log_small b1, _, rfl, ?_, z2, rfl, ?_, k _⟩)
  · rw [PySem.Str.length_append, PySem.Str.length_append, sizeLine_eq]
    show 0 + z1.length + _ ≤ _
    omega
  · rw [PySem.Str.length_append, PySem.Str.length_append, PySem.Str.length_append, sizeLine_eq]
    show 0 + z1.length + _ + _ ≤ _
    omega
theorem js_5 {t1 t2 : TE} {z1 z2 z3 : Str} {i1 i2 : Int} {σ : L2.St} {H : Hp} {Q : Str → Hp → Prop} (h1 : ∀ {Q : VK}, Q (.int i1) H → t1 σ H Q) (h2 : ∀ {Q : VK}, Q (.int i2) H → t2 σ H Q) (b1 : i1.natAbs < 2 ^ 64) (b2 : i2.natAbs < 2 ^ 64) (l1 : z1.length ≤ 100) (l2 : z2.length ≤ 100) (l3 : z3.length ≤ 100)
    (k : ∀ out, Q out H) : tJs [tC (.str z1), tFmt t1, tC (.str z2), tFmt t2, tC (.str z3)] Str.empty σ H Q := by
  have i1' := int_text_len_1921 (log_small b1)
  have i2' := int_text_len_1921 (log_small b2)
  refine ⟨z1, rfl, ?_, ?_⟩
  · rw [PySem.Str.length_append, sizeLine_eq]
    show 0 + z1.length ≤ _
    omega
  refine h1 (.inr ⟨i1, rfl, log_small b1, _, rfl, ?_, z2, rfl, ?_, ?_⟩)
  · rw [PySem.Str.length_append, PySem.Str.length_append, sizeLine_eq]
    show 0 + z1.length + _ ≤ _
    omega
  · rw [PySem.Str.length_append, PySem.Str.length_append, PySem.Str.length_append, sizeLine_eq]
    show 0 + z1.length + _ + _ ≤ _
    omega
  refine h2 (.inr ⟨i2, rfl, log_small b2, _, rfl, ?_, z3, rfl, ?_, k _⟩)
  · rw [PySem.Str.length_append, PySem.Str.length_append, PySem.Str.length_append, PySem.Str.length_append, sizeLine_eq]
    show 0 + z1.length + _ + _ + _ ≤ _
    omega
  · rw [PySem.Str.length_append, PySem.Str.length_append, PySem.Str.length_append, PySem.Str.length_append, PySem.Str.length_append, sizeLine_eq]
    show 0 + z1.length + _ + _ + _ + _ ≤ _
    omega
theorem lk_here {k : Str} {v : V} {r : List (Str × V)} : List.lookup k ((k, v) :: r) = some v := by
  have e : (k == k) = true := beq_self_eq_true k
  simp only [List.lookup, e]
theorem lk_past {k g : Str} {v : V} {r : List (Str × V)} (h : (k == g) = false) : List.lookup k ((g, v) :: r) = List.lookup k r := by
  simp only [List.lookup, h]
theorem put_here {f : Str} {v x : V} {r : List (Str × V)} : putF f v ((f, x) :: r) = (f, v) :: r := if_pos rfl
theorem put_past {f g : Str} {v x : V} {r : List (Str × V)} (h : ¬ g = f) : putF f v ((g, x) :: r) = (g, x) :: putF f v r := if_neg h
theorem slA_any {K : PySem.W.Frag} {H : Hp} {a : Addr} {xs : List V} {lo hi : Option Int} {Q : VK} (h : H a = some (.tup xs)) (q : ∀ H' p, Same H H' → H' p = some (.tup (cutV xs lo hi)) → Q (.ref p) H') : rSlA K (.ref a) lo hi H Q := by
  refine ⟨a, xs, rfl, SqT.of h, fun z => ?_, fun _ p hp => q _ p (same_upd (Same.refl H) hp) upd_same⟩
  refine q H a (Same.refl H) ?_
  rw [h]
  unfold cutV
  rw [z.1, z.2, List.drop_zero, Nat.sub_zero, List.take_length]
theorem catA_any {K : PySem.W.Frag} {H : Hp} {a b : Addr} {xs ys : List V} {Q : VK} (h1 : H a = some (.tup xs)) (h2 : H b = some (.tup ys)) (l : xs.length + ys.length ≤ sizeLine) (q : ∀ H' p, Same H H' → H' p = some (.tup (xs ++ ys)) → Q (.ref p) H') : rCatA K (.ref a) (.ref b) H Q := by
  refine ⟨a, b, xs, ys, rfl, rfl, SqT.of h1, SqT.of h2, l, fun z => ?_, fun _ z => ?_, fun _ _ p hp => q _ p (same_upd (Same.refl H) hp) upd_same⟩
  · subst z
    exact q H b (Same.refl H) h2
  · subst z
    exact q H a (Same.refl H) (by rw [List.append_nil]; exact h1)
/-- all but d as it was -/
def But (H H' : Hp) (p : Addr) : Prop := ∀ b o, H b = some o → b ≠ p → H' b = some o
theorem Same.but {H H' : Hp} {p : Addr} (s : Same H H') : But H H' p := fun b o e _ => s b o e
theorem But.trans {H H1 H2 : Hp} {p : Addr} (a : But H H1 p) (b : But H1 H2 p) : But H H2 p := fun c o e n => b c o (a c o e n) n
/-- lists of ints by their addresses, none of them the list D -/
def LLd (H : Hp) (ts : List Addr) (ws : List (List Int)) (D : Addr) : Prop := LL H ts ws ∧ ∀ a ∈ ts, a ≠ D
theorem LLd.nil {H : Hp} {D : Addr} : LLd H [] [] D := ⟨⟨rfl, fun i a u h => by simp at h⟩, fun a h => absurd h (by simp)⟩
theorem LLd.same {H H' : Hp} {ts : List Addr} {ws : List (List Int)} {D : Addr} (h : LLd H ts ws D) (s : Same H H') : LLd H' ts ws D := ⟨h.1.same s, h.2⟩
theorem LLd.upd {H : Hp} {ts : List Addr} {ws : List (List Int)} {D : Addr} (h : LLd H ts ws D) (o : HO) : LLd (L2.upd H D o) ts ws D := ⟨⟨h.1.1, fun j b y h1 h2 => (upd_ne (h.2 b (List.mem_of_getElem? h1))).trans (h.1.2 j b y h1 h2)⟩, h.2⟩
theorem LLd.snoc {H : Hp} {ts : List Addr} {ws : List (List Int)} {D l : Addr} {u : List Int} (h : LLd H ts ws D) (e : H l = some (.lst (u.map V.int))) (n : l ≠ D) : LLd H (ts ++ [l]) (ws ++ [u]) D := by
  refine ⟨⟨by rw [List.length_append, List.length_append, h.1.1]; rfl, fun j b y h1 h2 => ?_⟩, fun a ha => ?_⟩
  · rcases get_app h2 with z | ⟨z1, z2⟩
    · rcases get_app h1 with v | ⟨v1, v2⟩
      · exact h.1.2 j b y v z
      · have := (List.getElem?_eq_some_iff.mp z).1
        rw [← h.1.1] at this
        omega
    · rcases get_app h1 with v | ⟨v1, v2⟩
      · have := (List.getElem?_eq_some_iff.mp v).1
        rw [h.1.1] at this
        omega
      · rw [v2, z2]
        exact e
  · rcases List.mem_append.mp ha with q | q
    · exact h.2 a q
    · rw [List.mem_singleton.mp q]
      exact n
theorem LLd.push {H : Hp} {ts : List Addr} {ws : List (List Int)} {D l : Addr} {u : List Int} (h : LLd H ts ws D) (e : H l = some (.lst (u.map V.int))) (n : l ≠ D) (o : HO) : LLd (L2.upd H D o) (ts ++ [l]) (ws ++ [u]) D := (h.snoc e n).upd o
end Mz

set_option Elab.async false
set_option linter.all false
set_option maxRecDepth 100000
set_option maxHeartbeats 4000000
/-! for k, v in d.items(): d a dict with tuples as keys -/
namespace Mz
open PySem PySem.Spec PyProof.Rows L2
section
variable {X : Cx} {pins : List (Addr × Obj)} {σ : L2.St} {H : Hp} {s : Shared} {d : Addr} {o : Obj}
theorem frzT2 {kvs : List (List L2.Key × V)} (I : Inv X pins σ H s) (h : H d = some (.frz o (.dT kvs))) :
    (d == sysModules) = false ∧ s.heap.get? d = some o ∧ o.ExactDict ∧ ∃ (es : Array DictEntry) (ep : Nat), o.data = .dict es ep ∧ es.size = kvs.length ∧
      ∀ (i : Nat) (k : List L2.Key) (v : V), kvs[i]? = some (k, v) → ∃ (en : DictEntry) (q : Addr), es[i]? = some en ∧ en.key = .ref q ∧ H q = some (.tup (k.map kV)) ∧ RelV v en.val := by
  obtain ⟨hd, z, hs, xs, pr, o', es, ep, ho, hx, hdt, he, _⟩ := I.hok d _ h
  rw [hd] at ho
  cases ho
  refine ⟨hs, hd, hx, es, ep, hdt, ?_, fun i k v e => ?_⟩
  · have l1 : es.size = xs.length := size_of_entries he
    have l2 : kvs.length = xs.length := Paired.length pr
    omega
  · obtain ⟨b, hb, e1, e2, e3⟩ := paired_get pr e
    have q := entry_at he i
    rw [hb] at q
    exact ⟨_, b.2.1, q, rfl, e2, e3⟩
end
/-- the pairs, each a new tuple of the key's own tuple and the value -/
def Itit (d : Addr) (o : Obj) (kvs : List (List L2.Key × V)) : It :=
  ⟨fun i H => H d = some (.frz o (.dT kvs)) ∧ i < kvs.length, fun i H x H' => ∃ (T q : Addr) (k : List L2.Key) (v : V), kvs[i]? = some (k, v) ∧ H q = some (.tup (k.map kV)) ∧ x = .ref T ∧ H T = none ∧ H' = upd H T (.tup [.ref q, v]), fun i H => H d = some (.frz o (.dT kvs)) ∧ kvs.length ≤ i⟩
section
variable {P : Program} {w : World} {K : PySem.W.Frag} {tg : Expr} {d : Addr} {o : Obj} {es : Array DictEntry} {ep : Nat}
theorem turn_itemsT {kvs : List (List L2.Key × V)} {elts : List Expr} {kk : Nat} {tpos : Pos} (it : Addr) (hod : o.data = .dict es ep) :
    Turn P w K (.Tuple elts kk tpos) (Itit d o kvs) [it] it (fun i h => ∃ ok ov, IsItemIter h it d i kvs.length ep ok ov) where
  mem := by simp
  obj := fun i h st b hb => by
    have e : b = it := by simpa using hb
    subst e
    obtain ⟨ok, ov, e⟩ := st
    exact ⟨_, e, fun v z => nomatch z⟩
  keep := fun i h h' st k => let ⟨ok, ov, e⟩ := st; ⟨ok, ov, k it (by simp) _ e⟩
  item := by
    intro X hP hw hK hc i pins s σ H E I hf st hg
    subst hP hw hK
    obtain ⟨hd, hi⟩ := hg
    obtain ⟨hs, hgd, hx, es', ep', hdt, hsz, ent⟩ := frzT2 I hd
    obtain ⟨rfl, rfl⟩ := dict_ep hod hdt
    obtain ⟨⟨k, v⟩, hkv⟩ : ∃ p, kvs[i]? = some p := ⟨kvs[i], List.getElem?_eq_getElem hi⟩
    obtain ⟨en, q, hen, hkey, hq, rv⟩ := ent i k v hkv
    obtain ⟨ok, ov, he⟩ := st
    have hlt : it < s.heap.objs.size := Heap.lt_size he
    have hi2 : i < es'.size := by omega
    have een : es'[i] = en := by
      rw [Array.getElem?_eq_getElem hi2] at hen
      exact Option.some.inj hen
    rw [← hsz] at he
    refine wpAny_pyNext_items_item_raw he ⟨o, hgd, hx, hdt⟩ hi2 fun h' ho hT hz hk => ?_
    rw [een] at ho hT
    refine ⟨_, rfl, wpAny_letOwnedTupleGo_items (s := { s with heap := h' }) ho fun h'' he' sb => ?_⟩
    have hT2 : h''.get? s.heap.objs.size = some { cls := .type "tuple", data := .seq #[en.key, en.val] } := (sb.2 _ (Nat.ne_of_gt hlt)).trans hT
    have new : ObjOk X.prog X.w (upd H s.heap.objs.size (.tup [.ref q, v])) h'' s.heap.objs.size (.tup [.ref q, v]) :=
      ⟨by show 2 ≤ sizeLine; decide, [en.key, en.val], .cons hkey (.cons rv .nil), ⟨_, hT2, rfl, _, rfl⟩⟩
    have I1 : Inv X pins σ (upd H s.heap.objs.size (.tup [.ref q, v])) { s with heap := h'' } :=
      I.turnedNew (t' := s.toks) (ch := [it]) (fun b ob hb e => (sb.2 b (by simpa using hb)).trans (hk b ob (by simpa using hb) e)) hf (Nat.le_refl _) new
    refine ⟨.ref s.heap.objs.size, _, I1, rfl, ⟨_, q, k, v, hkv, hq, rfl, I.hok.fresh (Nat.le_refl _), rfl⟩, ⟨en.key, en.val, ?_⟩, fun b hb => ?_⟩
    · rw [← hsz]; exact he'
    · have e : b = it := by simpa using hb
      rw [e, upd_ne (Nat.ne_of_lt hlt)]
      exact (hf it (by simp)).1
  done := by
    intro X hP hw hK hc i pins s σ H E I hf st hg
    subst hP hw hK
    obtain ⟨hd, hi⟩ := hg
    obtain ⟨f0, f1, f2, f3, f4, f5⟩ := hf it (by simp)
    obtain ⟨hs, hgd, hx, es', ep', hdt, hsz, ent⟩ := frzT2 I hd
    obtain ⟨rfl, rfl⟩ := dict_ep hod hdt
    obtain ⟨ok, ov, he⟩ := st
    rw [← hsz] at he
    exact wpAny_pyNext_items_end_raw (I.ok.hd hc) he ⟨o, hgd, hx, hdt⟩ (by omega) fun h' eb => ⟨rfl, I.turned (t' := s.toks) (fun b ob hb e => eb b ob hb e) f0 f1 f3 f4 f5⟩
  self := fun A i s Q E st h => let ⟨_, _, e⟩ := st; PySem.W.kcp_self e h
end
/-- the dict is locked (tLock, or by the caller) -/
def iItemsT (td : TE) : TI := fun σ H R => td σ H fun x H1 => ∃ d o kvs, x = .ref d ∧ H1 d = some (.frz o (.dT kvs)) ∧ R (Itit d o kvs) H1
section
variable {X : Cx} {tg e : Expr} {td : TE} {apos cpos : Pos}
theorem pi_itemsT {elts : List Expr} {kk : Nat} {tpos : Pos} (he : PE X e td) (hbase : attributeBase e "items" X.env (eval e X.env) = eval e X.env := by rfl) (hline : (apos.endLine == cpos.line) = true := by rfl) :
    PI X (.Tuple elts kk tpos) (.Call (.Attribute e "items" apos) [] [] cpos) (iItemsT td) := by
  refine ⟨fun pins s σ H R I h => ?_⟩
  refine wpAny_Call_method (T := "dict") (id := "dict.items") hbase rfl hline F.plainAttrs_dict F.slot_dict_items F.type_dict_items (thn (he.run pins s σ H _ I h) fun u s1 ⟨x, H1, I1, rx, d, o, kvs, ex, hd, q⟩ => ?_)
  subst ex
  obtain rfl : u = Value.ref d := rx
  obtain ⟨hs, hgd, hx, es, ep, hdt, hsz, ent⟩ := frzT2 I1 hd
  have hraw : s1.heap.DictRaw d es ep := ⟨o, hgd, hx, hdt⟩
  refine ⟨hraw.typeIs, fun a e => by cases e; exact ⟨o, hgd, hx.2.1⟩, ?_⟩
  have I2 : Inv X pins σ H1 { s1 with heap := s1.heap.push { cls := .type "dict_items", data := .fields #[.ref d] } } := I1.kept (t' := s1.toks) fun b ob q => Heap.get?_push_of_some _ q
  have fin : wpAny (model X.prog X.w) X.A (pyIter (.ref s1.heap.objs.size)) (PIE X pins σ (.Tuple elts kk tpos) R) X.xe { s1 with heap := s1.heap.push { cls := .type "dict_items", data := .fields #[.ref d] } } := by
    refine wpAny_pyIter_items_raw (d := d) ⟨_, Heap.get?_push_size _ rfl, rfl, rfl⟩ (hraw.at fun o q => Heap.get?_push_of_some _ q) (pi_one (tk := s1.toks) I2 _ (turn_itemsT _ hdt) ⟨.none, .none, ?_⟩ q)
    rw [← hsz]
    exact Heap.get?_push_size _ rfl
  show wpAny _ _ (callWith cpos (.builtin "dict.items") [.ref d] [] []) _ X.xe s1
  exact method_meetsIn F.slot_dict_items F.entry_dict_items rfl (PySem.evalArgs_none ⟨rfl, hraw.typeIs, F.args_dict_items_1 _, _, meets_dict_items_raw d hs, ⟨es, ep, hraw⟩, fin⟩)
end
section
variable {d : Addr} {o : Obj}
theorem walk_itemsT {kvs : List (List L2.Key × V)} : Walk (Itit d o kvs) kvs.length (fun H => H d = some (.frz o (.dT kvs)))
    (fun i H x H' => ∃ (T q : Addr) (k : List L2.Key) (v : V), kvs[i]? = some (k, v) ∧ H q = some (.tup (k.map kV)) ∧ x = .ref T ∧ H T = none ∧ H' = upd H T (.tup [.ref q, v])) :=
  ⟨fun _ _ hi q => ⟨q, hi⟩, fun _ q => ⟨q, Nat.le_refl _⟩, fun _ _ _ _ _ _ y => y⟩
end
end Mz

set_option Elab.async false
set_option linter.all false
set_option maxRecDepth 100000
set_option maxHeartbeats 4000000
namespace K11
open PySem PySem.Spec PyProof.Rows L2 Mz
def top (i : Nat) : Stmt := PySem.Challenge.pw_maieutic_k11_tables.main.body.getD i (.Pass ⟨0, 0, 0, 0⟩)
abbrev s_walk : Stmt := top 7
abbrev s_Table_init : Stmt := inClass (top 9) 0
abbrev s_Table_state_words : Stmt := inClass (top 9) 1
abbrev s_Table_columns : Stmt := inClass (top 9) 2
abbrev s_Table_wanted : Stmt := inClass (top 9) 3
abbrev s_Table_extend : Stmt := inClass (top 9) 5
abbrev s_Table_add_column : Stmt := inClass (top 9) 6
abbrev s_Table_mistake : Stmt := inClass (top 9) 7
abbrev s_Table_machine : Stmt := inClass (top 9) 8
abbrev s_Table_rows : Stmt := inClass (top 9) 9
abbrev s_Table_new_row : Stmt := inClass (top 9) 10
abbrev s_Table_outputs : Stmt := inClass (top 9) 11
abbrev s_law_cell : Stmt := top 11
abbrev s_law_numbers : Stmt := top 12
abbrev s_law_machine : Stmt := top 13
abbrev s_law_state : Stmt := top 14
abbrev s_law_output : Stmt := top 15
abbrev s_law_rows : Stmt := top 18
abbrev s_law_wanted : Stmt := top 19
abbrev s_law_row : Stmt := top 20
abbrev s_law_made : Stmt := top 21
abbrev s_law_mistake : Stmt := top 22
abbrev s_law_machine_told : Stmt := top 23
abbrev s_law_alike : Stmt := top 24
abbrev s_law_filled : Stmt := top 25
abbrev s_law_extended : Stmt := top 26
abbrev s_law : Stmt := top 27
theorem sc_walk : FnScope ["machine", "state", "word", "moves", "letter"] ["machine", "state", "word"] (defScope s_walk) := ⟨rfl, rfl, rfl, by decide +kernel, rfl, by decide +kernel, by decide +kernel⟩
theorem sc_Table_init : FnScope ["self", "letters"] ["self", "letters"] (defScope s_Table_init) := ⟨rfl, rfl, rfl, by decide +kernel, rfl, by decide +kernel, by decide +kernel⟩
theorem sc_Table_state_words : FnScope ["self", "word"] ["self"] (defScope s_Table_state_words) := ⟨rfl, rfl, rfl, by decide +kernel, rfl, by decide +kernel, by decide +kernel⟩
theorem sc_Table_columns : FnScope ["self", "word"] ["self"] (defScope s_Table_columns) := ⟨rfl, rfl, rfl, by decide +kernel, rfl, by decide +kernel, by decide +kernel⟩
theorem sc_Table_wanted : FnScope ["self", "known", "row", "tail"] ["self", "known"] (defScope s_Table_wanted) := ⟨rfl, rfl, rfl, by decide +kernel, rfl, by decide +kernel, by decide +kernel⟩
theorem sc_Table_extend : FnScope ["self", "known", "row"] ["self", "known"] (defScope s_Table_extend) := ⟨rfl, rfl, rfl, by decide +kernel, rfl, by decide +kernel, by decide +kernel⟩
theorem sc_Table_add_column : FnScope ["self", "word"] ["self", "word"] (defScope s_Table_add_column) := ⟨rfl, rfl, rfl, by decide +kernel, rfl, by decide +kernel, by decide +kernel⟩
theorem sc_Table_mistake : FnScope ["self", "outs", "known", "machine", "word", "state", "tail"] ["self", "outs", "known"] (defScope s_Table_mistake) := ⟨rfl, rfl, rfl, by decide +kernel, rfl, by decide +kernel, by decide +kernel⟩
theorem sc_Table_machine : FnScope ["self", "outs", "known", "word", "state", "moves", "rows", "outputs", "states", "letter", "row"] ["self", "outs", "known"] (defScope s_Table_machine) := ⟨rfl, rfl, rfl, by decide +kernel, rfl, by decide +kernel, by decide +kernel⟩
theorem sc_Table_rows : FnScope ["self", "longer", "word", "letter"] ["self"] (defScope s_Table_rows) := ⟨rfl, rfl, rfl, by decide +kernel, rfl, by decide +kernel, by decide +kernel⟩
theorem sc_Table_new_row : FnScope ["self", "known", "seen", "row", "word"] ["self", "known"] (defScope s_Table_new_row) := ⟨rfl, rfl, rfl, by decide +kernel, rfl, by decide +kernel, by decide +kernel⟩
theorem sc_Table_outputs : FnScope ["self", "row", "known", "tail"] ["self", "row", "known"] (defScope s_Table_outputs) := ⟨rfl, rfl, rfl, by decide +kernel, rfl, by decide +kernel, by decide +kernel⟩
theorem sc_law_cell : FnScope ["script", "k"] ["script", "k"] (defScope s_law_cell) := ⟨rfl, rfl, rfl, by decide +kernel, rfl, by decide +kernel, by decide +kernel⟩
theorem sc_law_numbers : FnScope ["cell", "k", "many", "numbers", "rest", "j", "mixed", "twice"] ["cell", "k", "many"] (defScope s_law_numbers) := ⟨rfl, rfl, rfl, by decide +kernel, rfl, by decide +kernel, by decide +kernel⟩
theorem sc_law_machine : FnScope ["numbers", "letters", "outs", "states", "moves", "outputs", "s", "row", "a"] ["numbers", "letters", "outs", "states"] (defScope s_law_machine) := ⟨rfl, rfl, rfl, by decide +kernel, rfl, by decide +kernel, by decide +kernel⟩
theorem sc_law_state : FnScope ["machine", "word", "state", "letter"] ["machine", "word"] (defScope s_law_state) := ⟨rfl, rfl, rfl, by decide +kernel, rfl, by decide +kernel, by decide +kernel⟩
theorem sc_law_output : FnScope ["machine", "word"] ["machine", "word"] (defScope s_law_output) := ⟨rfl, rfl, rfl, by decide +kernel, rfl, by decide +kernel, by decide +kernel⟩
theorem sc_law_rows : FnScope ["states", "letters", "rows", "word", "a"] ["states", "letters"] (defScope s_law_rows) := ⟨rfl, rfl, rfl, by decide +kernel, rfl, by decide +kernel, by decide +kernel⟩
theorem sc_law_wanted : FnScope ["states", "columns", "letters", "known", "row", "column"] ["states", "columns", "letters", "known"] (defScope s_law_wanted) := ⟨rfl, rfl, rfl, by decide +kernel, rfl, by decide +kernel, by decide +kernel⟩
theorem sc_law_row : FnScope ["machine", "word", "columns", "column"] ["machine", "word", "columns"] (defScope s_law_row) := ⟨rfl, rfl, rfl, by decide +kernel, rfl, by decide +kernel, by decide +kernel⟩
theorem sc_law_made : FnScope ["machine", "states", "columns", "word", "rows", "moves", "nexts", "a", "row"] ["machine", "states", "columns"] (defScope s_law_made) := ⟨rfl, rfl, rfl, by decide +kernel, rfl, by decide +kernel, by decide +kernel⟩
theorem sc_law_mistake : FnScope ["machine", "made", "states", "columns", "s", "column", "state", "letter"] ["machine", "made", "states", "columns"] (defScope s_law_mistake) := ⟨rfl, rfl, rfl, by decide +kernel, rfl, by decide +kernel, by decide +kernel⟩
theorem sc_law_machine_told : FnScope ["table", "outs", "known", "e"] ["table", "outs", "known"] (defScope s_law_machine_told) := ⟨rfl, rfl, rfl, by decide +kernel, rfl, by decide +kernel, by decide +kernel⟩
theorem sc_law_alike : FnScope ["table", "column", "e"] ["table", "column"] (defScope s_law_alike) := ⟨rfl, rfl, rfl, by decide +kernel, rfl, by decide +kernel, by decide +kernel⟩
theorem sc_law_filled : FnScope ["table", "machine", "states", "columns", "known", "turn", "due", "word"] ["table", "machine", "states", "columns", "known"] (defScope s_law_filled) := ⟨rfl, rfl, rfl, by decide +kernel, rfl, by decide +kernel, by decide +kernel⟩
theorem sc_law_extended : FnScope ["table", "machine", "states", "columns", "known", "word", "rows", "due", "made", "told"] ["table", "machine", "states", "columns", "known"] (defScope s_law_extended) := ⟨rfl, rfl, rfl, by decide +kernel, rfl, by decide +kernel, by decide +kernel⟩
theorem sc_law : FnScope ["script", "first", "letters", "machine", "table", "other", "states", "columns", "known", "k", "turn", "before", "numbers", "column", "handed", "told", "j"] ["script"] (defScope s_law) := ⟨rfl, rfl, rfl, by decide +kernel, rfl, by decide +kernel, by decide +kernel⟩
/-- where the top has put what it makes -/
structure Ads where
  a_MaieuticError : Addr
  a_NotAllowed : Addr
  a_Missing : Addr
  a_Alike : Addr
  a_Table : Addr
  a_walk : Addr
  d_walk : FuncData
  a_Table_init : Addr
  d_Table_init : FuncData
  a_Table_state_words : Addr
  d_Table_state_words : FuncData
  a_Table_columns : Addr
  d_Table_columns : FuncData
  a_Table_wanted : Addr
  d_Table_wanted : FuncData
  a_Table_extend : Addr
  d_Table_extend : FuncData
  a_Table_add_column : Addr
  d_Table_add_column : FuncData
  a_Table_mistake : Addr
  d_Table_mistake : FuncData
  a_Table_machine : Addr
  d_Table_machine : FuncData
  a_Table_rows : Addr
  d_Table_rows : FuncData
  a_Table_new_row : Addr
  d_Table_new_row : FuncData
  a_Table_outputs : Addr
  d_Table_outputs : FuncData
  a_law_cell : Addr
  d_law_cell : FuncData
  a_law_numbers : Addr
  d_law_numbers : FuncData
  a_law_machine : Addr
  d_law_machine : FuncData
  a_law_state : Addr
  d_law_state : FuncData
  a_law_output : Addr
  d_law_output : FuncData
  a_law_rows : Addr
  d_law_rows : FuncData
  a_law_wanted : Addr
  d_law_wanted : FuncData
  a_law_row : Addr
  d_law_row : FuncData
  a_law_made : Addr
  d_law_made : FuncData
  a_law_mistake : Addr
  d_law_mistake : FuncData
  a_law_machine_told : Addr
  d_law_machine_told : FuncData
  a_law_alike : Addr
  d_law_alike : FuncData
  a_law_filled : Addr
  d_law_filled : FuncData
  a_law_extended : Addr
  d_law_extended : FuncData
  a_law : Addr
  d_law : FuncData
/-- what the proofs ask of the written part -/
structure Txt (K : PySem.W.Frag) (mg : Str → Option Value) (A : Ads) : Prop where
  g_MaieuticError : mg "MaieuticError" = some (.ref A.a_MaieuticError)
  x_MaieuticError : PySem.W.excIn K A.a_MaieuticError [.type "ValueError", .type "Exception", .type "BaseException", .type "object"] "ValueError.__new__" = true
  k_MaieuticError : PySem.W.keepIn K (.ref A.a_MaieuticError) = true
  sb_MaieuticError : PySem.W.subIn K (.ref A.a_MaieuticError) (.type "BaseException") = some true
  ty_MaieuticError : PySem.W.typeIn K (.ref A.a_MaieuticError) = some (.type "type")
  E_MaieuticError : ExcC K A.a_MaieuticError
  g_NotAllowed : mg "NotAllowed" = some (.ref A.a_NotAllowed)
  x_NotAllowed : PySem.W.excIn K A.a_NotAllowed [.type "ValueError", .type "Exception", .type "BaseException", .type "object"] "ValueError.__new__" = true
  k_NotAllowed : PySem.W.keepIn K (.ref A.a_NotAllowed) = true
  sb_NotAllowed : PySem.W.subIn K (.ref A.a_NotAllowed) (.type "BaseException") = some true
  ty_NotAllowed : PySem.W.typeIn K (.ref A.a_NotAllowed) = some (.type "type")
  E_NotAllowed : ExcC K A.a_NotAllowed
  g_Missing : mg "Missing" = some (.ref A.a_Missing)
  x_Missing : PySem.W.excIn K A.a_Missing [.type "ValueError", .type "Exception", .type "BaseException", .type "object"] "ValueError.__new__" = true
  k_Missing : PySem.W.keepIn K (.ref A.a_Missing) = true
  sb_Missing : PySem.W.subIn K (.ref A.a_Missing) (.type "BaseException") = some true
  ty_Missing : PySem.W.typeIn K (.ref A.a_Missing) = some (.type "type")
  E_Missing : ExcC K A.a_Missing
  g_Alike : mg "Alike" = some (.ref A.a_Alike)
  x_Alike : PySem.W.excIn K A.a_Alike [.type "ValueError", .type "Exception", .type "BaseException", .type "object"] "ValueError.__new__" = true
  k_Alike : PySem.W.keepIn K (.ref A.a_Alike) = true
  sb_Alike : PySem.W.subIn K (.ref A.a_Alike) (.type "BaseException") = some true
  ty_Alike : PySem.W.typeIn K (.ref A.a_Alike) = some (.type "type")
  E_Alike : ExcC K A.a_Alike
  g_Table : mg "Table" = some (.ref A.a_Table)
  cl_Table : Cls K A.a_Table
  mk_Table : Mk K A.a_Table A.a_Table_init
  nA_Table_letters : NoAttr K A.a_Table "_letters"
  nA_Table_states : NoAttr K A.a_Table "_states"
  nA_Table_tails : NoAttr K A.a_Table "_tails"
  su_MaieuticError_MaieuticError : PySem.W.subIn K (.ref A.a_MaieuticError) (.ref A.a_MaieuticError) = some true
  su_MaieuticError_NotAllowed : PySem.W.subIn K (.ref A.a_MaieuticError) (.ref A.a_NotAllowed) = some false
  su_MaieuticError_Missing : PySem.W.subIn K (.ref A.a_MaieuticError) (.ref A.a_Missing) = some false
  su_MaieuticError_Alike : PySem.W.subIn K (.ref A.a_MaieuticError) (.ref A.a_Alike) = some false
  su_NotAllowed_MaieuticError : PySem.W.subIn K (.ref A.a_NotAllowed) (.ref A.a_MaieuticError) = some true
  su_NotAllowed_NotAllowed : PySem.W.subIn K (.ref A.a_NotAllowed) (.ref A.a_NotAllowed) = some true
  su_NotAllowed_Missing : PySem.W.subIn K (.ref A.a_NotAllowed) (.ref A.a_Missing) = some false
  su_NotAllowed_Alike : PySem.W.subIn K (.ref A.a_NotAllowed) (.ref A.a_Alike) = some false
  su_Missing_MaieuticError : PySem.W.subIn K (.ref A.a_Missing) (.ref A.a_MaieuticError) = some true
  su_Missing_NotAllowed : PySem.W.subIn K (.ref A.a_Missing) (.ref A.a_NotAllowed) = some false
  su_Missing_Missing : PySem.W.subIn K (.ref A.a_Missing) (.ref A.a_Missing) = some true
  su_Missing_Alike : PySem.W.subIn K (.ref A.a_Missing) (.ref A.a_Alike) = some false
  su_Alike_MaieuticError : PySem.W.subIn K (.ref A.a_Alike) (.ref A.a_MaieuticError) = some true
  su_Alike_NotAllowed : PySem.W.subIn K (.ref A.a_Alike) (.ref A.a_NotAllowed) = some false
  su_Alike_Missing : PySem.W.subIn K (.ref A.a_Alike) (.ref A.a_Missing) = some false
  su_Alike_Alike : PySem.W.subIn K (.ref A.a_Alike) (.ref A.a_Alike) = some true
  F_walk : Fun K "walk" "walk" s_walk A.a_walk A.d_walk
  b_walk : Binds K A.d_walk ["machine", "state", "word"] []
  g_walk : mg "walk" = some (.ref A.a_walk)
  F_Table_init : Fun K "__init__" "Table.__init__" s_Table_init A.a_Table_init A.d_Table_init
  b_Table_init : Binds K A.d_Table_init ["self", "letters"] []
  m_Table_init : Meth K A.a_Table "__init__" A.a_Table_init
  F_Table_state_words : Fun K "state_words" "Table.state_words" s_Table_state_words A.a_Table_state_words A.d_Table_state_words
  b_Table_state_words : Binds K A.d_Table_state_words ["self"] []
  m_Table_state_words : Meth K A.a_Table "state_words" A.a_Table_state_words
  F_Table_columns : Fun K "columns" "Table.columns" s_Table_columns A.a_Table_columns A.d_Table_columns
  b_Table_columns : Binds K A.d_Table_columns ["self"] []
  m_Table_columns : Meth K A.a_Table "columns" A.a_Table_columns
  F_Table_wanted : Fun K "wanted" "Table.wanted" s_Table_wanted A.a_Table_wanted A.d_Table_wanted
  b_Table_wanted : Binds K A.d_Table_wanted ["self", "known"] []
  m_Table_wanted : Meth K A.a_Table "wanted" A.a_Table_wanted
  F_Table_extend : Fun K "extend" "Table.extend" s_Table_extend A.a_Table_extend A.d_Table_extend
  b_Table_extend : Binds K A.d_Table_extend ["self", "known"] []
  m_Table_extend : Meth K A.a_Table "extend" A.a_Table_extend
  F_Table_add_column : Fun K "add_column" "Table.add_column" s_Table_add_column A.a_Table_add_column A.d_Table_add_column
  b_Table_add_column : Binds K A.d_Table_add_column ["self", "word"] []
  m_Table_add_column : Meth K A.a_Table "add_column" A.a_Table_add_column
  F_Table_mistake : Fun K "mistake" "Table.mistake" s_Table_mistake A.a_Table_mistake A.d_Table_mistake
  b_Table_mistake : Binds K A.d_Table_mistake ["self", "outs", "known"] []
  m_Table_mistake : Meth K A.a_Table "mistake" A.a_Table_mistake
  F_Table_machine : Fun K "machine" "Table.machine" s_Table_machine A.a_Table_machine A.d_Table_machine
  b_Table_machine : Binds K A.d_Table_machine ["self", "outs", "known"] []
  m_Table_machine : Meth K A.a_Table "machine" A.a_Table_machine
  F_Table_rows : Fun K "_rows" "Table._rows" s_Table_rows A.a_Table_rows A.d_Table_rows
  b_Table_rows : Binds K A.d_Table_rows ["self"] []
  m_Table_rows : Meth K A.a_Table "_rows" A.a_Table_rows
  F_Table_new_row : Fun K "_new_row" "Table._new_row" s_Table_new_row A.a_Table_new_row A.d_Table_new_row
  b_Table_new_row : Binds K A.d_Table_new_row ["self", "known"] []
  m_Table_new_row : Meth K A.a_Table "_new_row" A.a_Table_new_row
  F_Table_outputs : Fun K "_outputs" "Table._outputs" s_Table_outputs A.a_Table_outputs A.d_Table_outputs
  b_Table_outputs : Binds K A.d_Table_outputs ["self", "row", "known"] []
  m_Table_outputs : Meth K A.a_Table "_outputs" A.a_Table_outputs
  F_law_cell : Fun K "_law_cell" "_law_cell" s_law_cell A.a_law_cell A.d_law_cell
  b_law_cell : Binds K A.d_law_cell ["script", "k"] []
  g_law_cell : mg "_law_cell" = some (.ref A.a_law_cell)
  F_law_numbers : Fun K "_law_numbers" "_law_numbers" s_law_numbers A.a_law_numbers A.d_law_numbers
  b_law_numbers : Binds K A.d_law_numbers ["cell", "k", "many"] []
  g_law_numbers : mg "_law_numbers" = some (.ref A.a_law_numbers)
  F_law_machine : Fun K "_law_machine" "_law_machine" s_law_machine A.a_law_machine A.d_law_machine
  b_law_machine : Binds K A.d_law_machine ["numbers", "letters", "outs", "states"] []
  g_law_machine : mg "_law_machine" = some (.ref A.a_law_machine)
  F_law_state : Fun K "_law_state" "_law_state" s_law_state A.a_law_state A.d_law_state
  b_law_state : Binds K A.d_law_state ["machine", "word"] []
  g_law_state : mg "_law_state" = some (.ref A.a_law_state)
  F_law_output : Fun K "_law_output" "_law_output" s_law_output A.a_law_output A.d_law_output
  b_law_output : Binds K A.d_law_output ["machine", "word"] []
  g_law_output : mg "_law_output" = some (.ref A.a_law_output)
  F_law_rows : Fun K "_law_rows" "_law_rows" s_law_rows A.a_law_rows A.d_law_rows
  b_law_rows : Binds K A.d_law_rows ["states", "letters"] []
  g_law_rows : mg "_law_rows" = some (.ref A.a_law_rows)
  F_law_wanted : Fun K "_law_wanted" "_law_wanted" s_law_wanted A.a_law_wanted A.d_law_wanted
  b_law_wanted : Binds K A.d_law_wanted ["states", "columns", "letters", "known"] []
  g_law_wanted : mg "_law_wanted" = some (.ref A.a_law_wanted)
  F_law_row : Fun K "_law_row" "_law_row" s_law_row A.a_law_row A.d_law_row
  b_law_row : Binds K A.d_law_row ["machine", "word", "columns"] []
  g_law_row : mg "_law_row" = some (.ref A.a_law_row)
  F_law_made : Fun K "_law_made" "_law_made" s_law_made A.a_law_made A.d_law_made
  b_law_made : Binds K A.d_law_made ["machine", "states", "columns"] []
  g_law_made : mg "_law_made" = some (.ref A.a_law_made)
  F_law_mistake : Fun K "_law_mistake" "_law_mistake" s_law_mistake A.a_law_mistake A.d_law_mistake
  b_law_mistake : Binds K A.d_law_mistake ["machine", "made", "states", "columns"] []
  g_law_mistake : mg "_law_mistake" = some (.ref A.a_law_mistake)
  F_law_machine_told : Fun K "_law_machine_told" "_law_machine_told" s_law_machine_told A.a_law_machine_told A.d_law_machine_told
  b_law_machine_told : Binds K A.d_law_machine_told ["table", "outs", "known"] []
  g_law_machine_told : mg "_law_machine_told" = some (.ref A.a_law_machine_told)
  F_law_alike : Fun K "_law_alike" "_law_alike" s_law_alike A.a_law_alike A.d_law_alike
  b_law_alike : Binds K A.d_law_alike ["table", "column"] []
  g_law_alike : mg "_law_alike" = some (.ref A.a_law_alike)
  F_law_filled : Fun K "_law_filled" "_law_filled" s_law_filled A.a_law_filled A.d_law_filled
  b_law_filled : Binds K A.d_law_filled ["table", "machine", "states", "columns", "known"] []
  g_law_filled : mg "_law_filled" = some (.ref A.a_law_filled)
  F_law_extended : Fun K "_law_extended" "_law_extended" s_law_extended A.a_law_extended A.d_law_extended
  b_law_extended : Binds K A.d_law_extended ["table", "machine", "states", "columns", "known"] []
  g_law_extended : mg "_law_extended" = some (.ref A.a_law_extended)
  F_law : Fun K "law" "law" s_law A.a_law A.d_law
  b_law : Binds K A.d_law ["script"] []
  g_law : mg "law" = some (.ref A.a_law)
  n_list : mg "list" = none
  n_len : mg "len" = none
  n_tuple : mg "tuple" = none
  n_range : mg "range" = none
  n_all : mg "all" = none
  n_int : mg "int" = none
  n_isinstance : mg "isinstance" = none
  n_max : mg "max" = none
  n_min : mg "min" = none
def sF (L : Int) (sd td : Addr) : List (Str × V) := [("_letters", .int L), ("_states", .ref sd), ("_tails", .ref td)]
theorem sF_letters (L : Int) (sd td : Addr) : (sF L sd td).lookup ("_letters" : Str) = some (.int L) := lk_here
theorem sF_states (L : Int) (sd td : Addr) : (sF L sd td).lookup ("_states" : Str) = some (.ref sd) := (lk_past (by decide +kernel)).trans lk_here
theorem sF_tails (L : Int) (sd td : Addr) : (sF L sd td).lookup ("_tails" : Str) = some (.ref td) := (lk_past (by decide +kernel)).trans ((lk_past (by decide +kernel)).trans lk_here)
/-- words numbered in a row -/
def kvsI (ws : List (List Int)) : List (List L2.Key × V) := ws.zipIdx.map fun x => (keyW x.1, V.int (x.2 : Int))
/-- what is told of words -/
def kvsO (kn : List (List Int × Int)) : List (List L2.Key × V) := kn.map fun x => (keyW x.1, V.int x.2)
/-- a table at p -/
structure TabAt (C : Addr) (H : Hp) (p sd td : Addr) (L : Int) (S T : List (List Int)) : Prop where
  ob : ∃ dx, H p = some (.ins C dx (sF L sd td))
  st : H sd = some (.dT (kvsI S))
  tl : H td = some (.dT (kvsW T))
theorem TabAt.same {C : Addr} {H H' : Hp} {p sd td : Addr} {L : Int} {S T : List (List Int)} (h : TabAt C H p sd td L S T) (s : Same H H') : TabAt C H' p sd td L S T := ⟨let ⟨dx, e⟩ := h.ob; ⟨dx, s _ _ e⟩, s _ _ h.st, s _ _ h.tl⟩
/-- the answer told of a word -/
def toldOf (kn : List (List Int × Int)) (w : List Int) : Option Int := (kn.find? fun x => decide (x.1 = w)).map (·.2)
theorem kvsI_at {ws : List (List Int)} {i : Nat} {w : List Int} (h : ws[i]? = some w) : (kvsI ws)[i]? = some (keyW w, V.int (i : Int)) := by
  unfold kvsI
  rw [List.getElem?_map, List.getElem?_zipIdx, h]
  simp
theorem kvsI_len {ws : List (List Int)} : (kvsI ws).length = ws.length := by unfold kvsI; rw [List.length_map, List.length_zipIdx]
theorem valO {kn : List (List Int × Int)} {w : List Int} : valV (kvsO kn) (keyW w) = (toldOf kn w).map V.int := by
  induction kn with
  | nil => rfl
  | cons x kn ih =>
    unfold kvsO toldOf at *
    rw [List.map_cons, List.find?_cons]
    unfold valV at *
    rw [List.find?_cons]
    by_cases c : x.1 = w
    · rw [c]
      simp
    · have c2 : ¬ keyW x.1 = keyW w := fun z => c (keyW_inj z)
      rw [decide_eq_false c]
      simp only [decide_eq_false c2]
      exact ih
end K11

set_option Elab.async false
set_option linter.all false
set_option maxRecDepth 100000
set_option maxHeartbeats 4000000
namespace K11
open PySem PySem.Spec PyProof.Rows L2 Mz
/-- a table's row -/
def rowOf (kn : List (List Int × Int)) (T : List (List Int)) (w : List Int) : List Int := T.map fun t => (toldOf kn (w ++ t)).getD 0
def spOutputs (A : Ads) : Sp := fun vs H Q _ => ∃ (p sd td kd r : Addr) (L : Int) (T : List (List Int)) (kn : List (List Int × Int)) (w : List Int), vs = [.ref p, .ref r, .ref kd] ∧ (∃ dx, H p = some (.ins A.a_Table dx (sF L sd td))) ∧ H td = some (.dT (kvsW T)) ∧ H r = some (.tup (w.map V.int)) ∧ H kd = some (.dT (kvsO kn)) ∧
  kd ≠ td ∧ (∀ t ∈ T, ∃ z, toldOf kn (w ++ t) = some z) ∧ T.length ≤ 1000 ∧ w.length ≤ 2000 ∧ (∀ t ∈ T, t.length ≤ 2000) ∧
  ∀ (H' : Hp) (q : Addr), Same H H' → H' q = some (.tup ((rowOf kn T w).map V.int)) → Q (.ref q) H'
section
variable {P : Program} {w : World} {K : PySem.W.Frag} {mg : Str → Option Value} {base : Heap} {A : Ads}
theorem ok_outputs (T : Txt K mg A) : FnOk P w K mg base CX0 1 A.a_Table_outputs A.d_Table_outputs ["self", "row", "known"] (spOutputs A) := by
  refine T.F_Table_outputs.ok sc_Table_outputs (fun vs H Q E h => ?_) (fun cdv Ar outer s H vs Q E hr h => ?_)
  · obtain ⟨_, _, _, _, _, _, _, _, _, rfl, _⟩ := h
    rfl
  · refine ⟨_, (pss_one (ps_ret (pe_callTy call_tuple_of (by rfl) T.n_tuple (by decide +kernel) (pa_cons (pe_lock (pe_lc (own := [("tail", 3)]) (g := (gName 3)) (tt := tYes) rfl sc_Table_outputs.nd (pi_keys (pe_fld (pv 0) rfl)) (blkOk_by (N := ["self", "row", "known", "tail"]) (sc := defScope s_Table_outputs) (by decide +kernel)) (fun _ _ _ _ _ => (pg_name (i := 3) sc_Table_outputs.nd rfl (Or.inl rfl))) (fun _ _ _ _ _ => pts_nil) (fun _ _ _ _ _ => (pe_dget (hu_of hr) (pv 2) (pe_op (r := rCatA K) op_catA (pv 1) (pv 3)) (fun _ _ => rfl))))) pa_nil)))), ?_⟩
    obtain ⟨p, sd, td, kd, r, L, Tl, kn, u, rfl, ⟨dx, ob⟩, ht, hrw, hk, kdd, all, t1, u1, tl, fin⟩ := h
    refine ⟨td, _, ht, trivial, fun od => ?_⟩
    have pd : p ≠ td := fun z => by
      rw [z, ht] at ob
      cases ob
    have rd : r ≠ td := fun z => by
      rw [z, ht] at hrw
      cases hrw
    have obF : (upd H td (.frz od (.dT (kvsW Tl)))) p = some (.ins A.a_Table dx (sF L sd td)) := by rw [upd_ne pd]; exact ob
    have hrF : (upd H td (.frz od (.dT (kvsW Tl)))) r = some (.tup (u.map V.int)) := by rw [upd_ne rd]; exact hrw
    have hkF : (upd H td (.frz od (.dT (kvsW Tl)))) kd = some (.dT (kvsO kn)) := by rw [upd_ne kdd]; exact hk
    refine ⟨_, rfl, p, _, dx, _, _, rfl, obF, T.cl_Table, T.nA_Table_tails, sF_tails _ _ _, td, od, rfl, .inr ⟨_, upd_same, fun D hD => ?_⟩⟩
    refine lc_it walk_keysT (fun i H' => Same (upd H td (.frz od (.dT (kvsW Tl)))) H' ∧ H' D = some (.lst ((rowOf kn (Tl.take i) u).map V.int))) ⟨same_upd (Same.refl _) hD, upd_same⟩ (fun i H' _ z => z.1 _ _ upd_same) ?_ ?_
    · rintro i x H3 H3x hi ⟨s3, e3⟩ ⟨rfl, k, v, q, hk2, rfl, hq⟩
      have il : i < Tl.length := by rw [kvsW_len] at hi; exact hi
      have ew := List.getElem?_eq_getElem il
      generalize Tl[i] = t at ew
      have hk3 : (kvsW Tl)[i]? = some (keyW t, .bl true) := by
        unfold kvsW
        rw [List.getElem?_map, ew]
        rfl
      rw [hk3] at hk2
      cases hk2
      rw [keyW_V] at hq
      refine ⟨rfl, ?_⟩
      obtain ⟨z, hz⟩ := all t (List.mem_of_getElem? ew)
      refine ⟨_, rfl, _, rfl, _, rfl, ?_⟩
      refine catA_any (s3 _ _ hrF) hq ?_ fun H6 c s6 ec => ?_
      · have := tl t (List.mem_of_getElem? ew)
        rw [List.length_map, List.length_map]
        exact Nat.le_of_lt (Nat.lt_of_le_of_lt (by omega : u.length + t.length ≤ 4000) (by decide))
      have ec2 : H6 c = some (.tup ((keyW (u ++ t)).map kV)) := by rw [keyW_V, List.map_append]; exact ec
      have s36 := s3.trans s6
      have g := DGet.t (k := keyW (u ++ t)) (s36 _ _ hkF) ec2
      rw [valO, hz] at g
      refine ⟨kd, .int z, rfl, g, ?_⟩
      refine ⟨_, s6 _ _ e3, ?_, same_set s36 hD, ?_⟩
      · rw [List.length_map]
        unfold rowOf
        rw [List.length_map, List.length_take]
        exact Nat.lt_of_le_of_lt (by omega : min i Tl.length ≤ 1000) (by decide)
      · rw [upd_same]
        unfold rowOf
        rw [take_more ew, List.map_append, List.map_append]
        simp [hz]
    rintro H3 ⟨s3, e3⟩
    rw [kvsW_len, List.take_length] at e3
    refine ⟨s3 _ _ upd_same, ?_⟩
    have Dd : D ≠ td := fun z => by
      rw [z, upd_same] at hD
      cases hD
    have eD : (upd H3 td (.dT (kvsW Tl))) D = some (.lst ((rowOf kn Tl u).map V.int)) := (upd_ne Dd).trans e3
    have sU : Same H (upd H3 td (.dT (kvsW Tl))) := fun b o e => by
      by_cases bd : b = td
      · subst bd
        rw [upd_same, ← ht]
        exact e
      · rw [upd_ne bd]
        exact s3 _ _ ((upd_ne bd).trans e)
    refine ⟨D, _, rfl, .inl ⟨SqL.of eD, fun l hl => ?_⟩⟩
    exact fin _ l (sU.trans (same_upd (Same.refl _) hl)) upd_same
end
end K11

set_option Elab.async false
set_option linter.all false
set_option maxRecDepth 100000
set_option maxHeartbeats 4000000
namespace K11
open PySem PySem.Spec PyProof.Rows L2 Mz
theorem sF_new (L : Int) (sd td : Addr) : putF "_tails" (.ref td) (putF "_states" (.ref sd) (putF "_letters" (.int L) [])) = sF L sd td := by
  have h1 : putF "_states" (.ref sd) (putF "_letters" (.int L) []) = ([((Str.ofString "_letters"), V.int L), ((Str.ofString "_states"), V.ref sd)] : List (Str × V)) := (put_past (by decide +kernel)).trans rfl
  rw [h1]
  exact (put_past (by decide +kernel)).trans (congrArg (List.cons _) ((put_past (by decide +kernel)).trans rfl))
def spInit (A : Ads) : Sp := fun vs H Q _ => ∃ (p dx : Addr) (L : Int), vs = [.ref p, .int L] ∧ H p = some (.ins A.a_Table dx []) ∧
  ∀ (H' : Hp) (sd td : Addr), TabAt A.a_Table H' p sd td L [[]] [[]] → But H H' p → H sd = none → H td = none → sd ≠ td → Q .non H'
def spStates (A : Ads) : Sp := fun vs H Q _ => ∃ (p sd td : Addr) (L : Int) (S T : List (List Int)), vs = [.ref p] ∧ TabAt A.a_Table H p sd td L S T ∧ S.length ≤ 2000 ∧
  ∀ (H' : Hp) (q : Addr) (ts : List Addr), Same H H' → H' q = some (.lst (ts.map V.ref)) → LL H' ts S → H q = none → (∀ t ∈ ts, H t = none) → Q (.ref q) H'
def spColumns (A : Ads) : Sp := fun vs H Q _ => ∃ (p sd td : Addr) (L : Int) (S T : List (List Int)), vs = [.ref p] ∧ TabAt A.a_Table H p sd td L S T ∧ T.length ≤ 2000 ∧
  ∀ (H' : Hp) (q : Addr) (ts : List Addr), Same H H' → H' q = some (.lst (ts.map V.ref)) → LL H' ts T → H q = none → (∀ t ∈ ts, H t = none) → Q (.ref q) H'
/-- a dict unlocked again -/
theorem unlock_same {H H3 : Hp} {d : Addr} {u : HO} {o : Obj} (hd : H d = some u) (s : Same (upd H d (.frz o u)) H3) : Same H (upd H3 d u) := fun b v e => by
  by_cases bd : b = d
  · subst bd
    rw [upd_same, ← hd]
    exact e
  · rw [upd_ne bd]
    exact s _ _ ((upd_ne bd).trans e)
theorem lock_free {H : Hp} {d b : Addr} {u v : HO} (hd : H d = some u) (h : upd H d v b = none) : H b = none := by
  by_cases c : b = d
  · subst c
    rw [upd_same] at h
    cases h
  · rw [upd_ne c] at h
    exact h
section
variable {P : Program} {w : World} {K : PySem.W.Frag} {mg : Str → Option Value} {base : Heap} {A : Ads}
theorem ok_init (T : Txt K mg A) : FnOk P w K mg base CX0 1 A.a_Table_init A.d_Table_init ["self", "letters"] (spInit A) := by
  refine T.F_Table_init.ok sc_Table_init (fun vs H Q E h => ?_) (fun cdv Ar outer s H vs Q E hr h => ?_)
  · obtain ⟨_, _, _, rfl, _⟩ := h
    rfl
  · refine ⟨_, (pss_cons (ps_fld (pv 0) (pv 1) rfl)
      (pss_cons (ps_fld (pv 0) (pe_disp1T (hu_of hr) (pe_tup pa_nil) pe_int) rfl)
      (pss_one (ps_fld (pv 0) (pe_disp1T (hu_of hr) (pe_tup pa_nil) pe_bl) rfl)))), ?_⟩
    obtain ⟨p, dx, L, rfl, hp, fin⟩ := h
    refine ⟨_, rfl, _, rfl, p, _, dx, _, rfl, hp, T.cl_Table, T.nA_Table_letters, (by show 0 < 1000; decide), ?_⟩
    have hp1 : (upd H p (.ins A.a_Table dx (putF "_letters" (.int L) []))) p = some (.ins A.a_Table dx (putF "_letters" (.int L) [])) := upd_same
    have b1 : But H (upd H p (.ins A.a_Table dx (putF "_letters" (.int L) []))) p := fun b o e nb => by rw [upd_ne nb]; exact e
    generalize upd H p (.ins A.a_Table dx (putF "_letters" (.int L) [])) = H1 at *
    intro sd hsd
    refine ⟨Nat.zero_le _, fun t ht => ?_⟩
    have sp : sd ≠ p := fun z => by rw [z, hp1] at hsd; cases hsd
    have tp : t ≠ p := fun z => by rw [z, upd_ne (Ne.symm sp), hp1] at ht; cases ht
    have ts : t ≠ sd := fun z => by rw [z, upd_same] at ht; cases ht
    have et : (upd (upd H1 sd (.dT [])) t (.tup [])) t = some (.tup (([] : List L2.Key).map kV)) := upd_same
    have es : (upd (upd H1 sd (.dT [])) t (.tup [])) sd = some (.dT []) := (upd_ne (Ne.symm ts)).trans upd_same
    refine ⟨t, [], rfl, et, es, ?_⟩
    have hp2 : (upd (upd (upd H1 sd (.dT [])) t (.tup [])) sd (.dT [([], .int 0)])) p = some (.ins A.a_Table dx (putF "_letters" (.int L) [])) := by rw [upd_ne (Ne.symm sp), upd_ne (Ne.symm tp), upd_ne (Ne.symm sp)]; exact hp1
    have es2 : (upd (upd (upd H1 sd (.dT [])) t (.tup [])) sd (.dT [([], .int 0)])) sd = some (.dT (kvsI [[]])) := upd_same
    have b2 : Same H1 (upd (upd (upd H1 sd (.dT [])) t (.tup [])) sd (.dT [([], .int 0)])) := same_set ((same_upd (Same.refl _) hsd).trans (same_upd (Same.refl _) ht)) hsd
    generalize upd (upd (upd H1 sd (.dT [])) t (.tup [])) sd (.dT [([], .int 0)]) = H2 at *
    clear ht et es ts tp
    refine ⟨_, rfl, p, _, dx, _, rfl, hp2, T.cl_Table, T.nA_Table_states, (by show 1 < 1000; decide), ?_⟩
    have hp3 : (upd H2 p (.ins A.a_Table dx (putF "_states" (.ref sd) (putF "_letters" (.int L) [])))) p = some (.ins A.a_Table dx (putF "_states" (.ref sd) (putF "_letters" (.int L) []))) := upd_same
    have es3 : (upd H2 p (.ins A.a_Table dx (putF "_states" (.ref sd) (putF "_letters" (.int L) [])))) sd = some (.dT (kvsI [[]])) := (upd_ne sp).trans es2
    have b3 : But H (upd H2 p (.ins A.a_Table dx (putF "_states" (.ref sd) (putF "_letters" (.int L) [])))) p := fun b o e nb => by rw [upd_ne nb]; exact b2 _ _ (b1 _ _ e nb)
    generalize upd H2 p (.ins A.a_Table dx (putF "_states" (.ref sd) (putF "_letters" (.int L) []))) = H3 at *
    intro td htd
    refine ⟨Nat.zero_le _, fun t ht => ?_⟩
    have tdp : td ≠ p := fun z => by rw [z, hp3] at htd; cases htd
    have tds : td ≠ sd := fun z => by rw [z, es3] at htd; cases htd
    have tp : t ≠ p := fun z => by rw [z, upd_ne (Ne.symm tdp), hp3] at ht; cases ht
    have ts : t ≠ td := fun z => by rw [z, upd_same] at ht; cases ht
    have tsd : t ≠ sd := fun z => by rw [z, upd_ne (Ne.symm tds), es3] at ht; cases ht
    refine ⟨t, [], rfl, upd_same, (upd_ne (Ne.symm ts)).trans upd_same, ?_⟩
    have hp4 : (upd (upd (upd H3 td (.dT [])) t (.tup [])) td (.dT [([], .bl true)])) p = some (.ins A.a_Table dx (putF "_states" (.ref sd) (putF "_letters" (.int L) []))) := by rw [upd_ne (Ne.symm tdp), upd_ne (Ne.symm tp), upd_ne (Ne.symm tdp)]; exact hp3
    have es4 : (upd (upd (upd H3 td (.dT [])) t (.tup [])) td (.dT [([], .bl true)])) sd = some (.dT (kvsI [[]])) := by rw [upd_ne (Ne.symm tds), upd_ne (Ne.symm tsd), upd_ne (Ne.symm tds)]; exact es3
    have et4 : (upd (upd (upd H3 td (.dT [])) t (.tup [])) td (.dT [([], .bl true)])) td = some (.dT (kvsW [[]])) := upd_same
    have b4 : Same H3 (upd (upd (upd H3 td (.dT [])) t (.tup [])) td (.dT [([], .bl true)])) := same_set ((same_upd (Same.refl _) htd).trans (same_upd (Same.refl _) ht)) htd
    generalize upd (upd (upd H3 td (.dT [])) t (.tup [])) td (.dT [([], .bl true)]) = H4 at *
    refine ⟨_, rfl, p, _, dx, _, rfl, hp4, T.cl_Table, T.nA_Table_tails, (by show 2 < 1000; decide), ?_⟩
    have nH : ∀ {b : Addr}, b ≠ p → H1 b = none → H b = none := fun {b} nb e => by
      cases q : H b with
      | none => rfl
      | some o => rw [b1 _ _ q nb] at e; cases e
    have nT : H td = none := by
      cases q : H td with
      | none => rfl
      | some o => rw [b3 _ _ q tdp] at htd; cases htd
    refine fin _ sd td ⟨⟨dx, ?_⟩, (upd_ne sp).trans es4, (upd_ne tdp).trans et4⟩ (fun b o e nb => by rw [upd_ne nb]; exact b4 _ _ (b3 _ _ e nb)) (nH sp hsd) nT (Ne.symm tds)
    exact Eq.trans upd_same (congrArg (fun q => some (HO.ins A.a_Table dx q)) (sF_new L sd td))
theorem ok_states (T : Txt K mg A) : FnOk P w K mg base CX0 1 A.a_Table_state_words A.d_Table_state_words ["self"] (spStates A) := by
  refine T.F_Table_state_words.ok sc_Table_state_words (fun vs H Q E h => ?_) (fun cdv Ar outer s H vs Q E hr h => ?_)
  · obtain ⟨_, _, _, _, _, _, rfl, _⟩ := h
    rfl
  · refine ⟨_, (pss_one (ps_ret (pe_lock (pe_lc (own := [("word", 1)]) (g := (gName 1)) (tt := tYes) rfl sc_Table_state_words.nd (pi_keys (pe_fld (pv 0) rfl)) (blkOk_by (N := ["self", "word"]) (sc := defScope s_Table_state_words) (by decide +kernel)) (fun _ _ _ _ _ => (pg_name (i := 1) sc_Table_state_words.nd rfl (Or.inl rfl))) (fun _ _ _ _ _ => pts_nil) (fun _ _ _ _ _ => (pe_callTy (r := rLof K) (T := "list") call_lof (by rfl) T.n_list (by decide +kernel) (pa_cons (pv 1) pa_nil))))))), ?_⟩
    obtain ⟨p, sd, td, L, ws, Tl, rfl, hs, few, fin⟩ := h
    obtain ⟨⟨dx, ob⟩, di, _⟩ := id hs
    refine ⟨sd, _, di, trivial, fun od => ?_⟩
    have pd : p ≠ sd := fun z => by
      rw [z, di] at ob
      cases ob
    have obF : (upd H sd (.frz od (.dT (kvsI ws)))) p = some (.ins A.a_Table dx (sF L sd td)) := by rw [upd_ne pd]; exact ob
    refine ⟨_, rfl, p, _, dx, _, _, rfl, obF, T.cl_Table, T.nA_Table_states, sF_states _ _ _, sd, od, rfl, .inr ⟨_, upd_same, fun D hD => ?_⟩⟩
    refine lc_it walk_keysT (fun i H' => ∃ ts : List Addr, H' D = some (.lst (ts.map V.ref)) ∧ LLd H' ts (ws.take i) D ∧ Same (upd H sd (.frz od (.dT (kvsI ws)))) H' ∧ ∀ t ∈ ts, H t = none) ⟨[], upd_same, LLd.nil, same_upd (Same.refl _) hD, fun t h => absurd h (by simp)⟩ (fun i H' _ ⟨_, _, _, z, _⟩ => z _ _ upd_same) ?_ ?_
    · rintro i x H3 H3x hi ⟨ts, e3, l3, s3, fr⟩ ⟨rfl, k, v, q, hk, rfl, hq⟩
      have il : i < ws.length := by rw [kvsI_len] at hi; exact hi
      have ew := List.getElem?_eq_getElem il
      generalize ws[i] = u at ew
      rw [kvsI_at ew] at hk
      cases hk
      rw [keyW_V] at hq
      refine ⟨rfl, _, rfl, q, _, rfl, .inr (SqT.of hq), fun l hl => ?_⟩
      have s4 := same_upd (o := .lst (u.map V.int)) (Same.refl H3x) hl
      refine ⟨_, s4 _ _ e3, ?_, ts ++ [l], by rw [upd_same, List.map_append]; rfl, ?_, same_set (s3.trans s4) hD, fun t ht => ?_⟩
      · rw [List.length_map]
        have := l3.1.1
        rw [List.length_take] at this
        exact Nat.lt_of_le_of_lt (by omega : ts.length ≤ 2000) (by decide)
      · rw [take_more ew]
        have lD : l ≠ D := fun z => by
          rw [z, e3] at hl
          cases hl
        exact (l3.same s4).push upd_same lD _
      · rcases List.mem_append.mp ht with z | z
        · exact fr t z
        · rw [List.mem_singleton.mp z]
          exact lock_free di (s3.free hl)
    · rintro H3 ⟨ts, e3, l3, s3, fr⟩
      rw [kvsI_len, List.take_length] at l3
      refine ⟨s3 _ _ upd_same, ?_⟩
      have Dd : D ≠ sd := fun z => by
        rw [z, upd_same] at hD
        cases hD
      refine fin _ D ts (unlock_same di s3) ?_ ⟨l3.1.1, fun j b y h1 h2 => ?_⟩ (lock_free di hD) fr
      · rw [upd_ne Dd]
        exact e3
      · have e := l3.1.2 j b y h1 h2
        rw [upd_ne fun z => by
          rw [z, s3 _ _ upd_same] at e
          cases e]
        exact e
theorem ok_columns (T : Txt K mg A) : FnOk P w K mg base CX0 1 A.a_Table_columns A.d_Table_columns ["self"] (spColumns A) := by
  refine T.F_Table_columns.ok sc_Table_columns (fun vs H Q E h => ?_) (fun cdv Ar outer s H vs Q E hr h => ?_)
  · obtain ⟨_, _, _, _, _, _, rfl, _⟩ := h
    rfl
  · refine ⟨_, (pss_one (ps_ret (pe_lock (pe_lc (own := [("word", 1)]) (g := (gName 1)) (tt := tYes) rfl sc_Table_columns.nd (pi_keys (pe_fld (pv 0) rfl)) (blkOk_by (N := ["self", "word"]) (sc := defScope s_Table_columns) (by decide +kernel)) (fun _ _ _ _ _ => (pg_name (i := 1) sc_Table_columns.nd rfl (Or.inl rfl))) (fun _ _ _ _ _ => pts_nil) (fun _ _ _ _ _ => (pe_callTy (r := rLof K) (T := "list") call_lof (by rfl) T.n_list (by decide +kernel) (pa_cons (pv 1) pa_nil))))))), ?_⟩
    obtain ⟨p, sd, td, L, S, ws, rfl, hs, few, fin⟩ := h
    obtain ⟨⟨dx, ob⟩, _, di⟩ := id hs
    refine ⟨td, _, di, trivial, fun od => ?_⟩
    have pd : p ≠ td := fun z => by
      rw [z, di] at ob
      cases ob
    have obF : (upd H td (.frz od (.dT (kvsW ws)))) p = some (.ins A.a_Table dx (sF L sd td)) := by rw [upd_ne pd]; exact ob
    refine ⟨_, rfl, p, _, dx, _, _, rfl, obF, T.cl_Table, T.nA_Table_tails, sF_tails _ _ _, td, od, rfl, .inr ⟨_, upd_same, fun D hD => ?_⟩⟩
    refine lc_it walk_keysT (fun i H' => ∃ ts : List Addr, H' D = some (.lst (ts.map V.ref)) ∧ LLd H' ts (ws.take i) D ∧ Same (upd H td (.frz od (.dT (kvsW ws)))) H' ∧ ∀ t ∈ ts, H t = none) ⟨[], upd_same, LLd.nil, same_upd (Same.refl _) hD, fun t h => absurd h (by simp)⟩ (fun i H' _ ⟨_, _, _, z, _⟩ => z _ _ upd_same) ?_ ?_
    · rintro i x H3 H3x hi ⟨ts, e3, l3, s3, fr⟩ ⟨rfl, k, v, q, hk, rfl, hq⟩
      have il : i < ws.length := by rw [kvsW_len] at hi; exact hi
      have ew := List.getElem?_eq_getElem il
      generalize ws[i] = u at ew
      have hk2 : (kvsW ws)[i]? = some (keyW u, .bl true) := by
        unfold kvsW
        rw [List.getElem?_map, ew]
        rfl
      rw [hk2] at hk
      cases hk
      rw [keyW_V] at hq
      refine ⟨rfl, _, rfl, q, _, rfl, .inr (SqT.of hq), fun l hl => ?_⟩
      have s4 := same_upd (o := .lst (u.map V.int)) (Same.refl H3x) hl
      refine ⟨_, s4 _ _ e3, ?_, ts ++ [l], by rw [upd_same, List.map_append]; rfl, ?_, same_set (s3.trans s4) hD, fun t ht => ?_⟩
      · rw [List.length_map]
        have := l3.1.1
        rw [List.length_take] at this
        exact Nat.lt_of_le_of_lt (by omega : ts.length ≤ 2000) (by decide)
      · rw [take_more ew]
        have lD : l ≠ D := fun z => by
          rw [z, e3] at hl
          cases hl
        exact (l3.same s4).push upd_same lD _
      · rcases List.mem_append.mp ht with z | z
        · exact fr t z
        · rw [List.mem_singleton.mp z]
          exact lock_free di (s3.free hl)
    · rintro H3 ⟨ts, e3, l3, s3, fr⟩
      rw [kvsW_len, List.take_length] at l3
      refine ⟨s3 _ _ upd_same, ?_⟩
      have Dd : D ≠ td := fun z => by
        rw [z, upd_same] at hD
        cases hD
      refine fin _ D ts (unlock_same di s3) ?_ ⟨l3.1.1, fun j b y h1 h2 => ?_⟩ (lock_free di hD) fr
      · rw [upd_ne Dd]
        exact e3
      · have e := l3.1.2 j b y h1 h2
        rw [upd_ne fun z => by
          rw [z, s3 _ _ upd_same] at e
          cases e]
        exact e
end
end K11

set_option Elab.async false
set_option linter.all false
/-! every state of a least machine is reached; a least machine with one other move answers otherwise -/
namespace Mz
open PySem PySem.Spec PyProof.Rows L2
section
variable {M : Mach} {G : List Int}
theorem ordStep_from : ∀ {row o : List Int} {c : Int}, c ∈ ordStep G row o → c ∈ o ∨ ∃ (a : Nat) (z : Int), row[a]? = some z ∧ c = cls G z
  | [], o, c, h => .inl h
  | z :: row, o, c, h => by
    have h : c ∈ ordStep G row (addC o (cls G z)) := h
    rcases ordStep_from h with q | ⟨a, y, h1, h2⟩
    · unfold addC at q
      by_cases m : cls G z ∈ o
      · rw [if_pos m] at q
        exact .inl q
      · rw [if_neg m] at q
        rcases List.mem_append.mp q with q | q
        · exact .inl q
        · exact .inr ⟨0, z, rfl, List.mem_singleton.mp q⟩
    · exact .inr ⟨a + 1, y, by simpa using h1, h2⟩
theorem plc_get {o : List Int} (n : o.Nodup) {i : Nat} {c : Int} (h : o[i]? = some c) : plc o c = i := by
  obtain ⟨l, e⟩ := plc_at (List.mem_of_getElem? h)
  exact (List.getElem?_inj l n).mp (e.trans h.symm)
theorem pre_get {l1 l2 : List Int} (h : l1 <+: l2) {i : Nat} {c : Int} (e : l1[i]? = some c) : l2[i]? = some c := by
  obtain ⟨t, rfl⟩ := h
  have := (List.getElem?_eq_some_iff.mp e).1
  rw [List.getElem?_append_left this]
  exact e
/-- every state of the least machine is reached -/
theorem least_reach (g : Good M) (r : Rep (EqM M) M.rows.length G) : ∀ k, k ≤ M.rows.length → ∀ c ∈ ordAt M G k, ∃ v, Lt M.ls v ∧ (leastBy M G (ordAt M G M.rows.length)).run 0 v = ((plc (ordAt M G M.rows.length) c : Nat) : Int)
  | 0, _, c, h => by
    rw [List.mem_singleton.mp h]
    have p := ord_pre (M := M) (G := G) 0 M.rows.length
    rw [Nat.zero_add] at p
    have e := pre_get p (i := 0) (c := cls G 0) rfl
    refine ⟨[], (fun _ h => by cases h), ?_⟩
    rw [plc_get (ord_ok g r _).1 e]
    rfl
  | k + 1, le, c, h => by
    have ih := least_reach g r k (by omega)
    by_cases lt : k < (ordAt M G k).length
    · have ek := List.getElem?_eq_getElem lt
      have e : (ordAt M G k).getD k 0 = (ordAt M G k)[k] := by
        rw [List.getD_eq_getElem?_getD, ek]
        rfl
      have h : c ∈ ordStep G (M.rows.getD ((ordAt M G k).getD k 0).toNat []) (ordAt M G k) := by
        unfold ordAt at h
        rw [if_pos lt] at h
        exact h
      rcases ordStep_from h with q | ⟨a, z, h1, h2⟩
      · exact ih c q
      · rw [e] at h1
        have rp := (ord_ok g r k).2 _ (List.mem_of_getElem? ek)
        obtain ⟨v, hv, ev⟩ := ih _ (List.mem_of_getElem? ek)
        have p := ord_pre (M := M) (G := G) k (M.rows.length - k)
        rw [show k + (M.rows.length - k) = M.rows.length by omega] at p
        have eO := pre_get p ek
        obtain ⟨w, w1, w2, w3⟩ := g.row rp.1
        have al : a < w.length := by
          rw [w3] at h1
          exact (List.getElem?_eq_some_iff.mp h1).1
        have wl := g.rl w w2
        refine ⟨v ++ [(a : Int)], lt_snoc.mpr ⟨hv, by omega, by omega⟩, ?_⟩
        rw [run_snoc, ev, plc_get (ord_ok g r _).1 eO]
        unfold Mach.next
        have lr := leastBy_row (M := M) (G := G) eO
        rw [show ((k : Nat) : Int).toNat = k by omega, show ((a : Nat) : Int).toNat = a by omega, List.getD_eq_getElem?_getD (l := (leastBy M G (ordAt M G M.rows.length)).rows), lr, Option.getD_some, List.getD_eq_getElem?_getD, List.getElem?_map, h1, h2]
        rfl
    · unfold ordAt at h
      rw [if_neg lt] at h
      exact ih c h
/-- a machine all whose states are reached and parted -/
structure Full (L : Mach) : Prop where
  good : Good L
  reach : ∀ s, L.St s → ∃ v, Lt L.ls v ∧ L.run 0 v = s
  apart : ∀ s t, L.St s → L.St t → Sim L L s t → s = t
theorem least_isfull (g : Good M) (r : Rep (EqM M) M.rows.length G) : Full (leastBy M G (ordAt M G M.rows.length)) where
  good := leastBy_good g r
  reach := fun s hs => by
    have i0 := hs.1
    have i1 := hs.2
    rw [leastBy_len] at i1
    have ei := List.getElem?_eq_getElem (show s.toNat < (ordAt M G M.rows.length).length by omega)
    obtain ⟨v, h1, h2⟩ := least_reach g r _ (Nat.le_refl _) _ (List.mem_of_getElem? ei)
    refine ⟨v, h1, ?_⟩
    rw [h2, plc_get (ord_ok g r _).1 ei]
    omega
  apart := fun s t hs ht sm => by
    refine Classical.byContradiction fun ne => ?_
    obtain ⟨u, pu⟩ := least_parts g r hs ht ne
    have b := pu.bad
    unfold Bad at b
    rw [runP_pair] at b
    exact b (sm u pu.lt)
end
/-- one move leads to another state -/
def chg (L : Mach) (p : Pr) : Mach := { L with rows := L.rows.set p.1.toNat ((L.rows.getD p.1.toNat []).set p.2.toNat (if L.next p.1 p.2 = 0 then 1 else 0)) }
section
variable {L : Mach} {p : Pr}
theorem chg_len : (chg L p).rows.length = L.rows.length := List.length_set ..
theorem chg_st {s : Int} : (chg L p).St s ↔ L.St s := by
  unfold Mach.St
  rw [chg_len]
theorem chg_out (s : Int) : (chg L p).out s = L.out s := rfl
theorem chg_good (g : Good L) (h2 : 2 ≤ L.rows.length) (hp : L.St p.1) : Good (chg L p) := by
  obtain ⟨w, e1, e2, e3⟩ := g.row hp
  refine ⟨g.l1, g.l4, g.o1, g.o6, by rw [chg_len]; exact g.s1, by rw [chg_len]; exact g.s30, by rw [chg_len]; exact g.ol, fun x hx => ?_, fun x hx z hz => ?_, g.ob⟩
  · rcases List.mem_or_eq_of_mem_set hx with h | h
    · exact g.rl x h
    · rw [h, List.length_set, e3]
      exact g.rl w e2
  · rw [chg_len]
    rcases List.mem_or_eq_of_mem_set hx with h | h
    · exact g.rb x h z hz
    · rw [h, e3] at hz
      rcases List.mem_or_eq_of_mem_set hz with q | q
      · exact g.rb w e2 z q
      · rw [q]
        split <;> omega
theorem chg_next (g : Good L) (hp : L.St p.1) (h0 : 0 ≤ p.2) (h1 : p.2 < L.ls) {s a : Int} (hs : L.St s) (ha : 0 ≤ a) : (chg L p).next s a = if (s, a) = p then (if L.next p.1 p.2 = 0 then 1 else 0) else L.next s a := by
  obtain ⟨w, e1, e2, e3⟩ := g.row hp
  have wl := g.rl w e2
  have p0 := hp.1
  have p1 := hp.2
  have s0 := hs.1
  have s1 := hs.2
  show ((L.rows.set p.1.toNat ((L.rows.getD p.1.toNat []).set p.2.toNat (if L.next p.1 p.2 = 0 then 1 else 0))).getD s.toNat []).getD a.toNat 0 = _
  generalize (if L.next p.1 p.2 = 0 then (1 : Int) else 0) = t
  rw [e3]
  by_cases es : s = p.1
  · rw [es, List.getD_eq_getElem?_getD (l := L.rows.set _ _), List.getElem?_set_self (by omega), Option.getD_some]
    by_cases ea : a = p.2
    · rw [if_pos (by rw [ea]), ea, List.getD_eq_getElem?_getD, List.getElem?_set_self (by omega)]
      rfl
    · rw [if_neg (fun z => ea (by rw [← z])), List.getD_eq_getElem?_getD, List.getElem?_set_ne (by omega), ← List.getD_eq_getElem?_getD, ← e3]
      rfl
  · rw [if_neg (fun z => es (by rw [← z])), List.getD_eq_getElem?_getD (l := L.rows.set _ _), List.getElem?_set_ne (by omega), ← List.getD_eq_getElem?_getD]
    rfl
/-- words that don't make the move lead alike -/
theorem chg_run (g : Good L) (hp : L.St p.1) (h0 : 0 ≤ p.2) (h1 : p.2 < L.ls) : ∀ v : List Int, Lt L.ls v → (∀ j a, v[j]? = some a → (L.run 0 (v.take j), a) ≠ p) → (chg L p).run 0 v = L.run 0 v := by
  intro v
  induction v using snoc_ind with
  | h0 => exact fun _ _ => rfl
  | hs v a ih =>
    intro hv no
    obtain ⟨v1, a0, a1⟩ := lt_snoc.mp hv
    have e := ih v1 fun j b hj => by
      have jl := (List.getElem?_eq_some_iff.mp hj).1
      have := no j b (by rw [List.getElem?_append_left jl]; exact hj)
      rw [List.take_append_of_le_length (by omega)] at this
      exact this
    have n := no v.length a (by simp)
    rw [List.take_append_of_le_length (Nat.le_refl _), List.take_length] at n
    rw [run_snoc, run_snoc, e, chg_next g hp h0 h1 (g.runs g.st0 v1) a0, if_neg n]
/-- a shortest word to a state -/
theorem short_word (F : Full L) {s : Int} (hs : L.St s) : ∃ v, Lt L.ls v ∧ L.run 0 v = s ∧ ∀ j, j < v.length → L.run 0 (v.take j) ≠ s := by
  obtain ⟨v, h1, h2⟩ := F.reach s hs
  have : ∀ n, ∀ v : List Int, v.length = n → Lt L.ls v → L.run 0 v = s → ∃ v, Lt L.ls v ∧ L.run 0 v = s ∧ ∀ j, j < v.length → L.run 0 (v.take j) ≠ s := by
    intro n
    induction n using Nat.strongRecOn with
    | ind n ih =>
      intro v hn h1 h2
      by_cases q : ∃ j, j < v.length ∧ L.run 0 (v.take j) = s
      · obtain ⟨j, j1, j2⟩ := q
        exact ih (v.take j).length (by rw [List.length_take]; omega) (v.take j) rfl (fun z hz => h1 z (List.mem_of_mem_take hz)) j2
      · exact ⟨v, h1, h2, fun j hj e => q ⟨j, hj, e⟩⟩
  exact this _ v rfl h1 h2
theorem sim_run {M N : Mach} (ls : M.ls = N.ls) {x y : Int} (s : Sim M N x y) {v : List Int} (hv : Lt M.ls v) : Sim M N (M.run x v) (N.run y v) := fun u hu => by
  have q := s (v ++ u) fun z hz => (List.mem_append.mp hz).elim (hv z) (hu z)
  unfold Mach.run at q ⊢
  rw [List.foldl_append, List.foldl_append] at q
  exact q
theorem sim_back {M N : Mach} {x y z : Int} (s : Sim M N x z) (t : Sim M N y z) : Sim M M x y := fun v hv => (s v hv).trans (t v hv).symm
/-- the machine with another move answers otherwise -/
theorem chg_apart (F : Full L) (h2 : 2 ≤ L.rows.length) (hp : L.St p.1) (h0 : 0 ≤ p.2) (h1 : p.2 < L.ls) : ¬ Sim L (chg L p) 0 0 := by
  intro sm
  have g := F.good
  obtain ⟨v, v1, v2, v3⟩ := short_word F hp
  have e := chg_run g hp h0 h1 v v1 fun j a hj z => v3 j (List.getElem?_eq_some_iff.mp hj).1 (by rw [← z])
  have sp := sim_run (M := L) (N := chg L p) rfl sm v1
  rw [e, v2] at sp
  have st : Sim L (chg L p) (L.next p.1 p.2) ((chg L p).next p.1 p.2) := sim_run (M := L) (N := chg L p) rfl sp (v := [p.2]) fun z hz => by
    rw [List.mem_singleton.mp hz]
    exact ⟨h0, h1⟩
  rw [chg_next g hp h0 h1 hp h0, if_pos rfl] at st
  by_cases c : L.next p.1 p.2 = 0
  · rw [if_pos c, c] at st
    have ch : ∀ i : Nat, ∃ y : Nat, i + 1 < L.rows.length → y < L.rows.length - 2 ∧ Sim L (chg L p) ((i : Int) + 1) ((y : Int) + 2) := fun i => by
      by_cases l : i + 1 < L.rows.length
      · have hi : L.St ((i : Int) + 1) := ⟨by omega, by omega⟩
        obtain ⟨u, u1, u2⟩ := F.reach _ hi
        have su := sim_run (M := L) (N := chg L p) rfl sm u1
        rw [u2] at su
        have so := chg_st.mp ((chg_good g h2 hp).runs (chg_st.mpr g.st0) u1)
        have n0 : (chg L p).run 0 u ≠ 0 := fun z => by
          rw [z] at su
          have := F.apart _ _ hi g.st0 (sim_back su sm)
          omega
        have n1 : (chg L p).run 0 u ≠ 1 := fun z => by
          rw [z] at su
          have := F.apart _ _ hi g.st0 (sim_back su st)
          omega
        have a1 := so.1
        have a2 := so.2
        refine ⟨((chg L p).run 0 u).toNat - 2, fun _ => ⟨by omega, ?_⟩⟩
        rw [show ((((chg L p).run 0 u).toNat - 2 : Nat) : Int) + 2 = (chg L p).run 0 u by omega]
        exact su
      · exact ⟨0, fun z => absurd z l⟩
    have few := nodup_few (L.rows.length - 2) ((List.range (L.rows.length - 1)).map fun i => Classical.choose (ch i)) ?_ ?_
    · rw [List.length_map, List.length_range] at few
      omega
    · refine List.pairwise_map.mpr (List.Pairwise.imp_of_mem (fun {i j} hi hj lt e => ?_) List.pairwise_lt_range)
      have hi := List.mem_range.mp hi
      have hj := List.mem_range.mp hj
      have a := (Classical.choose_spec (ch i) (by omega)).2
      have b := (Classical.choose_spec (ch j) (by omega)).2
      rw [e] at a
      have := F.apart _ _ ⟨by omega, by omega⟩ ⟨by omega, by omega⟩ (sim_back a b)
      omega
    · intro x hx
      obtain ⟨i, hi, rfl⟩ := List.mem_map.mp hx
      exact (Classical.choose_spec (ch i) (by have := List.mem_range.mp hi; omega)).1
  · rw [if_neg c] at st
    have s1 := (g.step hp h0 h1).1
    exact c (F.apart _ _ s1 g.st0 (sim_back st sm))
end
end Mz

set_option Elab.async false
set_option linter.all false
set_option maxRecDepth 100000
set_option maxHeartbeats 4000000
/-! two machines side by side; least machines that are full; how many pairs are met -/
namespace Mz
open PySem PySem.Spec PyProof.Rows L2
def mineW (k : Int) (w : List Int) : List Int := w.filter fun a => decide (a < k)
def restW (k : Int) (w : List Int) : List Int := (w.filter fun a => decide (k ≤ a)).map fun a => a - k
def brow (n : Nat) (u v : List Int) (s t : Int) : List Int := (u.map fun z => z * n + t) ++ v.map fun z => s * n + z
def beRow (A B : Mach) (i : Nat) : List Int := brow B.rows.length (A.rows.getD (i / B.rows.length) []) (B.rows.getD (i % B.rows.length) []) ((i / B.rows.length : Nat) : Int) ((i % B.rows.length : Nat) : Int)
def beOut (A B : Mach) (i : Nat) : Int := A.out ((i / B.rows.length : Nat) : Int) * B.os + B.out ((i % B.rows.length : Nat) : Int)
def beM (A B : Mach) : Mach := ⟨A.ls + B.ls, A.os * B.os, (List.range (A.rows.length * B.rows.length)).map (beRow A B), (List.range (A.rows.length * B.rows.length)).map (beOut A B)⟩
theorem pr_div {n : Nat} {s t : Int} (hs : 0 ≤ s) (ht : 0 ≤ t) (hn : t < n) : 0 ≤ s * n + t ∧ (s * n + t).toNat / n = s.toNat ∧ (s * n + t).toNat % n = t.toNat := by
  obtain ⟨a, rfl⟩ := Int.eq_ofNat_of_zero_le hs
  obtain ⟨b, rfl⟩ := Int.eq_ofNat_of_zero_le ht
  have e : ((a : Int) * (n : Int) + (b : Int)) = ((a * n + b : Nat) : Int) := by
    rw [Int.natCast_add, Int.natCast_mul]
  have hb : b < n := by omega
  rw [e, Int.toNat_natCast, Int.toNat_natCast, Int.toNat_natCast]
  refine ⟨by omega, ?_, ?_⟩
  · rw [Nat.add_comm, Nat.add_mul_div_right _ _ (by omega), Nat.div_eq_of_lt hb, Nat.zero_add]
  · rw [Nat.add_comm, Nat.add_mul_mod_self_right, Nat.mod_eq_of_lt hb]
theorem pr_lt {m n : Nat} {s t : Int} (hs : 0 ≤ s) (hm : s < m) (ht : 0 ≤ t) (hn : t < n) : (s * n + t).toNat < m * n := by
  obtain ⟨a, rfl⟩ := Int.eq_ofNat_of_zero_le hs
  obtain ⟨b, rfl⟩ := Int.eq_ofNat_of_zero_le ht
  have e : ((a : Int) * (n : Int) + (b : Int)) = ((a * n + b : Nat) : Int) := by
    rw [Int.natCast_add, Int.natCast_mul]
  have hb : b < n := by omega
  have ha : a + 1 ≤ m := by omega
  have := Nat.mul_le_mul_right n ha
  rw [Nat.add_mul, Nat.one_mul] at this
  rw [e, Int.toNat_natCast]
  omega
theorem mix_inj {a b c d m : Int} (b0 : 0 ≤ b) (b1 : b < m) (d0 : 0 ≤ d) (d1 : d < m) (h : a * m + b = c * m + d) : a = c ∧ b = d := by
  have e1 : (b + a * m) % m = b := by rw [Int.add_mul_emod_self_right]; exact Int.emod_eq_of_lt b0 b1
  have e2 : (d + c * m) % m = d := by rw [Int.add_mul_emod_self_right]; exact Int.emod_eq_of_lt d0 d1
  have bd : b = d := by
    rw [← e1, ← e2, Int.add_comm b, Int.add_comm d, h]
  subst bd
  exact ⟨Int.eq_of_mul_eq_mul_right (by omega) (by omega : a * m = c * m), rfl⟩
theorem st_nat {M : Mach} {i : Nat} (h : i < M.rows.length) : M.St (i : Int) := ⟨Int.natCast_nonneg _, Int.ofNat_lt.mpr h⟩
section
variable {A B : Mach}
theorem be_len : (beM A B).rows.length = A.rows.length * B.rows.length := by
  show ((List.range _).map _).length = _
  rw [List.length_map, List.length_range]
theorem be_st {s t : Int} (hs : A.St s) (ht : B.St t) : (beM A B).St (s * B.rows.length + t) := by
  have h1 := pr_div hs.1 ht.1 ht.2
  have h2 := pr_lt hs.1 hs.2 ht.1 ht.2
  refine ⟨h1.1, ?_⟩
  rw [be_len]
  have := h1.1
  omega
theorem be_row {s t : Int} (hs : A.St s) (ht : B.St t) : (beM A B).rows.getD (s * B.rows.length + t).toNat [] = brow B.rows.length (A.rows.getD s.toNat []) (B.rows.getD t.toNat []) s t := by
  have h1 := pr_div hs.1 ht.1 ht.2
  have h2 := pr_lt hs.1 hs.2 ht.1 ht.2
  show ((List.range _).map _).getD _ _ = _
  rw [List.getD_eq_getElem?_getD, List.getElem?_map, List.getElem?_range h2]
  show beRow A B _ = _
  unfold beRow
  rw [h1.2.1, h1.2.2, Int.toNat_of_nonneg hs.1, Int.toNat_of_nonneg ht.1]
theorem be_out {s t : Int} (hs : A.St s) (ht : B.St t) : (beM A B).out (s * B.rows.length + t) = A.out s * B.os + B.out t := by
  have h1 := pr_div hs.1 ht.1 ht.2
  have h2 := pr_lt hs.1 hs.2 ht.1 ht.2
  show ((List.range _).map _).getD _ _ = _
  rw [List.getD_eq_getElem?_getD, List.getElem?_map, List.getElem?_range h2]
  show beOut A B _ = _
  unfold beOut
  rw [h1.2.1, h1.2.2, Int.toNat_of_nonneg hs.1, Int.toNat_of_nonneg ht.1]
theorem be_next1 (gA : Good A) (gB : Good B) {s t a : Int} (hs : A.St s) (ht : B.St t) (h0 : 0 ≤ a) (h1 : a < A.ls) : (beM A B).next (s * B.rows.length + t) a = A.next s a * B.rows.length + t := by
  show ((beM A B).rows.getD _ []).getD _ _ = _
  rw [be_row hs ht]
  obtain ⟨w, e1, e2, e3⟩ := gA.row hs
  have wl := gA.rl w e2
  unfold brow
  rw [e3, List.getD_eq_getElem?_getD, List.getElem?_append_left (by rw [List.length_map]; omega), List.getElem?_map]
  have lt : a.toNat < w.length := by omega
  unfold Mach.next
  rw [e3, List.getD_eq_getElem?_getD, List.getElem?_eq_getElem lt]
  rfl
theorem be_next2 (gA : Good A) (gB : Good B) {s t a : Int} (hs : A.St s) (ht : B.St t) (h0 : A.ls ≤ a) (h1 : a < A.ls + B.ls) : (beM A B).next (s * B.rows.length + t) a = s * B.rows.length + B.next t (a - A.ls) := by
  show ((beM A B).rows.getD _ []).getD _ _ = _
  rw [be_row hs ht]
  obtain ⟨w, e1, e2, e3⟩ := gA.row hs
  have wl := gA.rl w e2
  obtain ⟨u, f1, f2, f3⟩ := gB.row ht
  have ul := gB.rl u f2
  have := gA.l1
  unfold brow
  rw [e3, f3, List.getD_eq_getElem?_getD, List.getElem?_append_right (by rw [List.length_map]; omega), List.length_map, List.getElem?_map]
  have ei : a.toNat - w.length = (a - A.ls).toNat := by omega
  have lt : (a - A.ls).toNat < u.length := by omega
  unfold Mach.next
  rw [ei, f3, List.getD_eq_getElem?_getD, List.getElem?_eq_getElem lt]
  rfl
theorem be_run (gA : Good A) (gB : Good B) : ∀ (w : List Int) (s t : Int), A.St s → B.St t → Lt (A.ls + B.ls) w →
    A.St (A.run s (mineW A.ls w)) ∧ B.St (B.run t (restW A.ls w)) ∧ (beM A B).run (s * B.rows.length + t) w = A.run s (mineW A.ls w) * B.rows.length + B.run t (restW A.ls w)
  | [], s, t, hs, ht, _ => ⟨hs, ht, rfl⟩
  | a :: w, s, t, hs, ht, hw => by
    have ha := hw a List.mem_cons_self
    have hw' : Lt (A.ls + B.ls) w := fun z hz => hw z (List.mem_cons_of_mem _ hz)
    show _ ∧ _ ∧ (beM A B).run ((beM A B).next _ a) w = _
    by_cases c : a < A.ls
    · have e1 : mineW A.ls (a :: w) = a :: mineW A.ls w := by
        unfold mineW
        rw [List.filter_cons_of_pos (by simpa using c)]
      have e2 : restW A.ls (a :: w) = restW A.ls w := by
        unfold restW
        rw [List.filter_cons_of_neg (by simpa using c)]
      rw [e1, e2, be_next1 gA gB hs ht ha.1 c]
      exact be_run gA gB w _ t (gA.step hs ha.1 c).1 ht hw'
    · have e1 : mineW A.ls (a :: w) = mineW A.ls w := by
        unfold mineW
        rw [List.filter_cons_of_neg (by simpa using c)]
      have e2 : restW A.ls (a :: w) = (a - A.ls) :: restW A.ls w := by
        unfold restW
        rw [List.filter_cons_of_pos (by simp only [decide_eq_true_eq]; omega), List.map_cons]
      rw [e1, e2, be_next2 gA gB hs ht (by omega) ha.2]
      exact be_run gA gB w s _ hs (gB.step ht (by omega) (by omega)).1 hw'
theorem mine_lt {k m : Int} {w : List Int} (h : Lt m w) : Lt k (mineW k w) := fun z hz => by
  have := List.mem_filter.mp hz
  exact ⟨(h z this.1).1, by simpa using this.2⟩
theorem rest_lt {k m : Int} {w : List Int} (h : Lt (k + m) w) : Lt m (restW k w) := fun z hz => by
  obtain ⟨y, hy, rfl⟩ := List.mem_map.mp hz
  have := List.mem_filter.mp hy
  have h1 := h y this.1
  have h2 : k ≤ y := by simpa using this.2
  omega
theorem mine_all {k : Int} {w : List Int} (h : Lt k w) : mineW k w = w ∧ restW k w = [] := by
  refine ⟨List.filter_eq_self.mpr fun a ha => by simpa using (h a ha).2, ?_⟩
  unfold restW
  rw [List.filter_eq_nil_iff.mpr fun a ha => by have := (h a ha).2; simp only [decide_eq_true_eq]; omega]
  rfl
theorem rest_all {k m : Int} {w : List Int} (h : Lt m w) : mineW k (w.map fun z => z + k) = [] ∧ restW k (w.map fun z => z + k) = w := by
  have hh : ∀ a ∈ w.map fun z => z + k, k ≤ a := fun a ha => by
    obtain ⟨y, hy, rfl⟩ := List.mem_map.mp ha
    have := (h y hy).1
    omega
  refine ⟨List.filter_eq_nil_iff.mpr fun a ha => by have := hh a ha; simp only [decide_eq_true_eq]; omega, ?_⟩
  unfold restW
  rw [List.filter_eq_self.mpr fun a ha => by simpa using hh a ha, List.map_map]
  have : ((fun a => a - k) ∘ fun z : Int => z + k) = id := by
    funext z
    show z + k - k = z
    omega
  rw [this, List.map_id]
theorem be_good (gA : Good A) (gB : Good B) (hl : A.ls + B.ls ≤ 4) (ho : A.os * B.os ≤ 6) (hn : A.rows.length * B.rows.length ≤ 30) : Good (beM A B) := by
  have a1 := gA.s1
  have b1 := gB.s1
  have div : ∀ i, i < A.rows.length * B.rows.length → i / B.rows.length < A.rows.length ∧ i % B.rows.length < B.rows.length := fun i hi =>
    ⟨Nat.div_lt_of_lt_mul (by rw [Nat.mul_comm]; exact hi), Nat.mod_lt _ (by omega)⟩
  refine ⟨?_, hl, ?_, ho, ?_, ?_, ?_, fun w hw => ?_, fun w hw z hz => ?_, fun z hz => ?_⟩
  · have := gA.l1
    have := gB.l1
    show 1 ≤ A.ls + B.ls
    omega
  · exact Int.mul_le_mul (a := 1) (b := 1) (c := A.os) (d := B.os) gA.o1 gB.o1 (by decide) (by have := gA.o1; omega)
  · rw [be_len]
    exact Nat.mul_le_mul a1 b1
  · rw [be_len]
    exact hn
  · rw [be_len]
    show ((List.range _).map _).length = _
    rw [List.length_map, List.length_range]
  · obtain ⟨i, hi, rfl⟩ := List.mem_map.mp hw
    have hi := div i (List.mem_range.mp hi)
    have sA : A.St ((i / B.rows.length : Nat) : Int) := st_nat hi.1
    have sB : B.St ((i % B.rows.length : Nat) : Int) := st_nat hi.2
    obtain ⟨w, e1, e2, e3⟩ := gA.row sA
    obtain ⟨u, f1, f2, f3⟩ := gB.row sB
    rw [Int.toNat_natCast] at e3 f3
    have wl := gA.rl w e2
    have ul := gB.rl u f2
    unfold beRow brow
    rw [e3, f3, List.length_append, List.length_map, List.length_map]
    show _ = A.ls + B.ls
    omega
  · obtain ⟨i, hi, rfl⟩ := List.mem_map.mp hw
    have hi := div i (List.mem_range.mp hi)
    have sA : A.St ((i / B.rows.length : Nat) : Int) := st_nat hi.1
    have sB : B.St ((i % B.rows.length : Nat) : Int) := st_nat hi.2
    obtain ⟨w, e1, e2, e3⟩ := gA.row sA
    obtain ⟨u, f1, f2, f3⟩ := gB.row sB
    rw [Int.toNat_natCast] at e3 f3
    unfold beRow brow at hz
    rw [e3, f3] at hz
    rcases List.mem_append.mp hz with q | q
    · obtain ⟨y, hy, rfl⟩ := List.mem_map.mp q
      have := gA.rb w e2 y hy
      exact be_st (A := A) (B := B) ⟨this.1, this.2⟩ sB
    · obtain ⟨y, hy, rfl⟩ := List.mem_map.mp q
      have := gB.rb u f2 y hy
      exact be_st (A := A) (B := B) sA ⟨this.1, this.2⟩
  · obtain ⟨i, hi, rfl⟩ := List.mem_map.mp hz
    have hi := div i (List.mem_range.mp hi)
    have oA := (gA.outp (s := ((i / B.rows.length : Nat) : Int)) (st_nat hi.1)).2
    have oB := (gB.outp (s := ((i % B.rows.length : Nat) : Int)) (st_nat hi.2)).2
    unfold beOut
    generalize A.out _ = x at *
    generalize B.out _ = y at *
    show 0 ≤ _ ∧ _ < A.os * B.os
    have h1 : 0 ≤ x * B.os := Int.mul_nonneg oA.1 (by omega)
    have h2 : (x + 1) * B.os ≤ A.os * B.os := Int.mul_le_mul_of_nonneg_right (by omega) (by omega)
    rw [Int.add_mul, Int.one_mul] at h2
    omega
theorem be_split (gB : Good B) {s : Int} (h : (beM A B).St s) : ∃ x y, A.St x ∧ B.St y ∧ s = x * B.rows.length + y := by
  have h0 := h.1
  have h1 := h.2
  rw [be_len] at h1
  have b1 := gB.s1
  have lt : s.toNat < A.rows.length * B.rows.length := by omega
  have d1 : s.toNat / B.rows.length < A.rows.length := Nat.div_lt_of_lt_mul (by rw [Nat.mul_comm]; exact lt)
  have d2 : s.toNat % B.rows.length < B.rows.length := Nat.mod_lt _ (by omega)
  refine ⟨((s.toNat / B.rows.length : Nat) : Int), ((s.toNat % B.rows.length : Nat) : Int), st_nat d1, st_nat d2, ?_⟩
  have := Nat.div_add_mod s.toNat B.rows.length
  rw [← Int.natCast_mul, ← Int.natCast_add, Nat.mul_comm, this]
  omega
theorem be_full (fA : Full A) (fB : Full B) (hl : A.ls + B.ls ≤ 4) (ho : A.os * B.os ≤ 6) (hn : A.rows.length * B.rows.length ≤ 30) : Full (beM A B) where
  good := be_good fA.good fB.good hl ho hn
  reach := fun s hs => by
    obtain ⟨x, y, hx, hy, rfl⟩ := be_split fB.good hs
    obtain ⟨v, v1, v2⟩ := fA.reach x hx
    obtain ⟨u, u1, u2⟩ := fB.reach y hy
    have lt : Lt (A.ls + B.ls) (v ++ u.map fun z => z + A.ls) := fun z hz => by
      have := fA.good.l1
      have := fB.good.l1
      rcases List.mem_append.mp hz with q | q
      · have := v1 z q
        omega
      · obtain ⟨q1, hq, rfl⟩ := List.mem_map.mp q
        have := u1 q1 hq
        omega
    refine ⟨_, lt, ?_⟩
    have e0 : (0 : Int) = 0 * B.rows.length + 0 := by omega
    have := (be_run fA.good fB.good _ 0 0 fA.good.st0 fB.good.st0 lt).2.2
    rw [← e0] at this
    rw [this]
    have m1 := mine_all v1
    have m2 := rest_all (k := A.ls) u1
    have a1 : mineW A.ls (v ++ u.map fun z => z + A.ls) = v := by
      unfold mineW at m1 m2 ⊢
      rw [List.filter_append, m1.1, m2.1, List.append_nil]
    have a2 : restW A.ls (v ++ u.map fun z => z + A.ls) = u := by
      have q1 := m1.2
      have q2 := m2.2
      unfold restW at q1 q2 ⊢
      rw [List.filter_append, List.map_append, q1, q2, List.nil_append]
    rw [a1, a2, v2, u2]
  apart := fun s t hs ht sm => by
    obtain ⟨x, y, hx, hy, rfl⟩ := be_split fB.good hs
    obtain ⟨x2, y2, hx2, hy2, rfl⟩ := be_split fB.good ht
    have la := fA.good.l1
    have lb := fB.good.l1
    have both : ∀ w, Lt (A.ls + B.ls) w → A.out (A.run x (mineW A.ls w)) = A.out (A.run x2 (mineW A.ls w)) ∧ B.out (B.run y (restW A.ls w)) = B.out (B.run y2 (restW A.ls w)) := fun w hw => by
      have h := sm w hw
      obtain ⟨p1, p2, p3⟩ := be_run fA.good fB.good w x y hx hy hw
      obtain ⟨q1, q2, q3⟩ := be_run fA.good fB.good w x2 y2 hx2 hy2 hw
      rw [p3, q3, be_out p1 p2, be_out q1 q2] at h
      have o1 := (fB.good.outp p2).2
      have o2 := (fB.good.outp q2).2
      exact mix_inj o1.1 o1.2 o2.1 o2.2 h
    have ex : x = x2 := fA.apart x x2 hx hx2 fun v hv => by
      have := (both v fun z hz => by have := hv z hz; omega).1
      rwa [(mine_all hv).1] at this
    have ey : y = y2 := fB.apart y y2 hy hy2 fun v hv => by
      have := (both (v.map fun z => z + A.ls) fun z hz => by
        obtain ⟨q, hq, rfl⟩ := List.mem_map.mp hz
        have := hv q hq
        omega).2
      rwa [(rest_all hv).2] at this
    rw [ex, ey]
end
section
variable {M : Mach} {G : List Int}
theorem full_cls (F : Full M) (r : Rep (EqM M) M.rows.length G) {s : Int} (h : M.St s) : cls G s = s := by
  have g := F.good
  have := cls_rp g r h
  exact (F.apart s _ h this.1.1 this.2).symm
theorem full_ord (F : Full M) (r : Rep (EqM M) M.rows.length G) {s : Int} (h : M.St s) : s ∈ ordAt M G M.rows.length := by
  have g := F.good
  obtain ⟨v, hv, e⟩ := F.reach s h
  have run : ∀ (v : List Int) (s : Int), M.St s → s ∈ ordAt M G M.rows.length → Lt M.ls v → M.run s v ∈ ordAt M G M.rows.length := by
    intro v
    induction v with
    | nil => exact fun _ _ h _ => h
    | cons a v ih =>
      intro s hs h hv
      have ha := hv a List.mem_cons_self
      obtain ⟨s2, w, e1, e2⟩ := g.step hs ha.1 ha.2
      have := ord_closed g r h (z := M.next s a) (by
        rw [List.getD_eq_getElem?_getD, e1]
        exact List.mem_of_getElem? e2)
      rw [full_cls F r s2] at this
      exact ih _ s2 this fun z hz => hv z (List.mem_cons_of_mem _ hz)
  have p := ord_pre (M := M) (G := G) 0 M.rows.length
  rw [Nat.zero_add] at p
  have : cls G 0 ∈ ordAt M G M.rows.length := p.subset List.mem_cons_self
  rw [full_cls F r g.st0] at this
  rw [← e]
  exact run v 0 g.st0 this hv
theorem full_len (F : Full M) (r : Rep (EqM M) M.rows.length G) : (ordAt M G M.rows.length).length = M.rows.length := by
  refine Nat.le_antisymm (ord_len F.good r _) ?_
  have n : ((List.range M.rows.length).map fun i : Nat => (i : Int)).Nodup := by
    refine List.Pairwise.map _ ?_ List.nodup_range
    intro a b h e
    exact h (by omega)
  have := n.length_le_of_subset (l₂ := ordAt M G M.rows.length) fun z hz => by
    obtain ⟨i, hi, rfl⟩ := List.mem_map.mp hz
    have := List.mem_range.mp hi
    exact full_ord F r ⟨by omega, by omega⟩
  rwa [List.length_map, List.length_range] at this
/-- the numbers of a machine's states -/
def ids (n : Nat) : List Int := (List.range n).map fun i : Nat => (i : Int)
theorem ids_len {n : Nat} : (ids n).length = n := by
  unfold ids
  rw [List.length_map, List.length_range]
theorem ids_get {n i : Nat} (h : i < n) : (ids n)[i]? = some (i : Int) := by
  unfold ids
  rw [List.getElem?_map, List.getElem?_range h]
  rfl
theorem full_rep (F : Full M) : Rep (EqM M) M.rows.length (ids M.rows.length) := by
  refine ⟨ids_len, fun i hi => ⟨i, ids_get hi, Nat.le_refl _, fun v hv => rfl, fun j hj e => ?_⟩⟩
  have := F.apart (i : Int) (j : Int) ⟨by omega, by omega⟩ ⟨by omega, by omega⟩ e
  omega
/-- the states of a least machine are numbered as they are met -/
theorem least_ids (g : Good M) (r : Rep (EqM M) M.rows.length G) {L : Mach} (e : L = leastBy M G (ordAt M G M.rows.length)) : ordAt L (ids L.rows.length) L.rows.length = ids L.rows.length := by
  have F : Full L := by rw [e]; exact least_isfull g r
  have sim : Sim M L 0 0 := by rw [e]; exact leastBy_sim g r
  have ls : M.ls = L.ls := by rw [e]; rfl
  have rF := full_rep F
  have lL : L.rows.length = (ordAt M G M.rows.length).length := by rw [e, leastBy_len]
  have le := ord_len g r M.rows.length
  have b := both_ord ls g F.good r rF sim M.rows.length
  have w : ordAt L (ids L.rows.length) M.rows.length = ordAt L (ids L.rows.length) L.rows.length := ord_whole F.good rF (by
    have := ord_len F.good rF M.rows.length
    omega)
  rw [w] at b
  have fl := full_len F rF
  refine List.ext_getElem? fun i => ?_
  by_cases hi : i < L.rows.length
  · rw [ids_get hi]
    obtain ⟨c, ei⟩ : ∃ c, (ordAt M G M.rows.length)[i]? = some c := ⟨_, List.getElem?_eq_getElem (show i < (ordAt M G M.rows.length).length by omega)⟩
    obtain ⟨d, hd, h1, h2, h3⟩ := paired_get b ei
    rw [hd]
    have s2 : Sim M L c (i : Int) := fun v hv => by
      rw [e]
      exact leastBy_walk g r v _ _ i hv h1.1 h1.2 ei
    have := F.apart d (i : Int) h2.1 ⟨by omega, by omega⟩ (fun v hv => by
      rw [← ls] at hv
      exact (h3 v hv).symm.trans (s2 v hv))
    rw [this]
  · rw [List.getElem?_eq_none (by rw [fl]; omega), List.getElem?_eq_none (by rw [ids_len]; omega)]
theorem ord_ind {S : Int → Prop} (h0 : S (cls G 0)) (h : ∀ c, S c → ∀ z ∈ M.rows.getD c.toNat [], S (cls G z)) : ∀ k, ∀ c ∈ ordAt M G k, S c
  | 0, c, hc => by
    rw [show ordAt M G 0 = [cls G 0] from rfl] at hc
    rw [List.mem_singleton.mp hc]
    exact h0
  | k + 1, c, hc => by
    unfold ordAt at hc
    by_cases lt : k < (ordAt M G k).length
    · rw [if_pos lt] at hc
      rcases ordStep_from hc with q | ⟨a, z, q1, q2⟩
      · exact ord_ind h0 h k c q
      · rw [q2]
        refine h _ (ord_ind h0 h k ((ordAt M G k).getD k 0) ?_) z (List.mem_of_getElem? q1)
        rw [List.getD_eq_getElem?_getD, List.getElem?_eq_getElem lt]
        exact List.getElem_mem lt
    · rw [if_neg lt] at hc
      exact ord_ind h0 h k c hc
end
/-- the pairs of both orders -/
def prodL (u v : List Int) : List Pr := u.flatMap fun c => v.map fun d => (c, d)
theorem prodL_mem {u v : List Int} {p : Pr} : p ∈ prodL u v ↔ p.1 ∈ u ∧ p.2 ∈ v := by
  unfold prodL
  rw [List.mem_flatMap]
  constructor
  · rintro ⟨c, hc, hp⟩
    obtain ⟨d, hd, rfl⟩ := List.mem_map.mp hp
    exact ⟨hc, hd⟩
  · rintro ⟨h1, h2⟩
    exact ⟨p.1, h1, List.mem_map.mpr ⟨p.2, h2, rfl⟩⟩
theorem prodL_len {u v : List Int} : (prodL u v).length = u.length * v.length := by
  unfold prodL
  induction u with
  | nil => simp
  | cons c u ih =>
    rw [List.flatMap_cons, List.length_append, List.length_map, ih, List.length_cons, Nat.add_mul, Nat.one_mul, Nat.add_comm]
theorem prodL_nodup {u v : List Int} (hu : u.Nodup) (hv : v.Nodup) : (prodL u v).Nodup := by
  unfold prodL
  induction u with
  | nil => exact List.nodup_nil
  | cons c u ih =>
    rw [List.flatMap_cons]
    have hc := List.nodup_cons.mp hu
    refine List.nodup_append.mpr ⟨List.Pairwise.map _ (fun a b h e => h (by injection e)) hv, ih hc.2, ?_⟩
    rintro p hp q hq rfl
    obtain ⟨d, hd, rfl⟩ := List.mem_map.mp hp
    have := (prodL_mem (u := u) (v := v)).mp hq
    exact hc.1 this.1
section
variable {A B : Mach} {GA GB : List Int}
theorem pairs_all {D : List Pr} (h0 : (cls GA 0, cls GB 0) ∈ D) (h1 : ∀ p ∈ D, ∀ z ∈ A.rows.getD p.1.toNat [], (cls GA z, p.2) ∈ D) (h2 : ∀ p ∈ D, ∀ z ∈ B.rows.getD p.2.toNat [], (p.1, cls GB z) ∈ D) :
    ∀ p ∈ prodL (ordAt A GA A.rows.length) (ordAt B GB B.rows.length), p ∈ D := by
  intro p hp
  obtain ⟨p1, p2⟩ := prodL_mem.mp hp
  have hB : ∀ d ∈ ordAt B GB B.rows.length, (cls GA 0, d) ∈ D := ord_ind (S := fun d => (cls GA 0, d) ∈ D) h0 (fun c hc z hz => h2 _ hc z hz) _
  exact ord_ind (S := fun c => (c, p.2) ∈ D) (hB _ p2) (fun c hc z hz => h1 _ hc z hz) _ p.1 p1
theorem pairs_few {D : List Pr} (n : D.Nodup) (h : ∀ p ∈ D, p ∈ prodL (ordAt A GA A.rows.length) (ordAt B GB B.rows.length)) : D.length ≤ (ordAt A GA A.rows.length).length * (ordAt B GB B.rows.length).length := by
  rw [← prodL_len]
  exact n.length_le_of_subset h
theorem pairs_len (gA : Good A) (gB : Good B) (rA : Rep (EqM A) A.rows.length GA) (rB : Rep (EqM B) B.rows.length GB) {D : List Pr} (n : D.Nodup) (h : ∀ p ∈ D, p ∈ prodL (ordAt A GA A.rows.length) (ordAt B GB B.rows.length))
    (h0 : (cls GA 0, cls GB 0) ∈ D) (h1 : ∀ p ∈ D, ∀ z ∈ A.rows.getD p.1.toNat [], (cls GA z, p.2) ∈ D) (h2 : ∀ p ∈ D, ∀ z ∈ B.rows.getD p.2.toNat [], (p.1, cls GB z) ∈ D) :
    D.length = (ordAt A GA A.rows.length).length * (ordAt B GB B.rows.length).length := by
  refine Nat.le_antisymm (pairs_few n h) ?_
  rw [← prodL_len]
  exact (prodL_nodup (ord_ok gA rA _).1 (ord_ok gB rB _).1).length_le_of_subset (pairs_all h0 h1 h2)
end
/-- a ring of states -/
def ringM (n : Nat) : Mach := ⟨1, 2, (List.range n).map fun k : Nat => [((k : Int) + 1) % (n : Int)], (List.range n).map fun k : Nat => if k = 0 then 1 else 0⟩
def rings (n : Nat) : Bool := (List.range n).all (fun s => (ringM n).run 0 (List.replicate s 0) = (s : Int)) &&
  (List.range n).all fun s => (List.range n).all fun t => decide (s = t) || !decide ((ringM n).out ((ringM n).run (s : Int) (List.replicate (n - s) 0)) = (ringM n).out ((ringM n).run (t : Int) (List.replicate (n - s) 0)))
theorem ring_full {n : Nat} (h : rings n = true) (h1 : 1 ≤ n) (h2 : n ≤ 30) : Full (ringM n) := by
  have len : (ringM n).rows.length = n := by
    show ((List.range n).map _).length = n
    rw [List.length_map, List.length_range]
  have zl : ∀ k, Lt 1 (List.replicate k (0 : Int)) := fun k z hz => by
    rw [List.eq_of_mem_replicate hz]
    decide
  unfold rings at h
  rw [Bool.and_eq_true, List.all_eq_true, List.all_eq_true] at h
  refine ⟨⟨(by show (1 : Int) ≤ 1; decide), (by show (1 : Int) ≤ 4; decide), (by show (1 : Int) ≤ 2; decide), (by show (2 : Int) ≤ 6; decide), by rw [len]; exact h1, by rw [len]; exact h2, ?_, fun w hw => ?_, fun w hw z hz => ?_, fun z hz => ?_⟩, fun s hs => ?_, fun s t hs ht sm => ?_⟩
  · rw [len]
    show ((List.range n).map _).length = n
    rw [List.length_map, List.length_range]
  · obtain ⟨k, _, rfl⟩ := List.mem_map.mp hw
    rfl
  · rw [len]
    obtain ⟨k, _, rfl⟩ := List.mem_map.mp hw
    rw [List.mem_singleton.mp hz]
    exact ⟨Int.emod_nonneg _ (by omega), Int.emod_lt_of_pos _ (by omega)⟩
  · obtain ⟨k, _, rfl⟩ := List.mem_map.mp hz
    show 0 ≤ (if k = 0 then (1 : Int) else 0) ∧ (if k = 0 then (1 : Int) else 0) < 2
    split <;> decide
  · have s0 := hs.1
    have s1 := hs.2
    rw [len] at s1
    have := h.1 s.toNat (List.mem_range.mpr (by omega))
    refine ⟨_, zl s.toNat, ?_⟩
    have := of_decide_eq_true this
    rw [this]
    omega
  · have s0 := hs.1
    have s1 := hs.2
    have t0 := ht.1
    have t1 := ht.2
    rw [len] at s1 t1
    have := List.all_eq_true.mp (h.2 s.toNat (List.mem_range.mpr (by omega))) t.toNat (List.mem_range.mpr (by omega))
    rw [Int.toNat_of_nonneg s0, Int.toNat_of_nonneg t0, decide_eq_true (sm _ (zl _))] at this
    have := of_decide_eq_true (by simpa using this : decide (s.toNat = t.toNat) = true)
    omega
theorem full5 : Full (ringM 5) := ring_full (by decide +kernel) (by decide) (by decide)
theorem full6 : Full (ringM 6) := ring_full (by decide +kernel) (by decide) (by decide)
theorem full7 : Full (ringM 7) := ring_full (by decide +kernel) (by decide) (by decide)
end Mz

set_option Elab.async false
set_option linter.all false
set_option maxRecDepth 100000
set_option maxHeartbeats 4000000
/-! a machine under work: its rows in a list, its outputs in another -/
namespace Mz
open PySem PySem.Spec PyProof.Rows L2
theorem same_seq {H H' : Hp} {K : PySem.W.Frag} {a : Addr} {xs : List V} (k : Same H H') (h : SqL K H a xs) : SqL K H' a xs := by
  rcases h with (h | ⟨o, h⟩) | h
  · exact .inl (.inl (k _ _ h))
  · exact .inl (.inr ⟨o, k _ _ h⟩)
  · exact .inr h
theorem at_get {xs : List V} {i : Nat} {v : V} (h : xs[i]? = some v) : atI xs (i : Int) = some v := by
  have := atI_get? (f := fun x : V => x) (ns := xs) (i := (i : Int)) (z := v) (by omega) (by rw [Int.toNat_natCast]; exact h)
  rwa [List.map_id'] at this
/-- a list of tuples of ints -/
def Rws (H : Hp) (D : Addr) (rows : List (List Int)) : Prop := ∃ rs : List Addr, H D = some (.lst (rs.map V.ref)) ∧ rs.length = rows.length ∧ ∀ (i : Nat) (r : Addr) (w : List Int), rs[i]? = some r → rows[i]? = some w → IT H r w
theorem Rws.on {H H2 : Hp} {D : Addr} {rows : List (List Int)} (h : Rws H D rows) (s : Same H H2) : Rws H2 D rows := let ⟨rs, a, b, c⟩ := h; ⟨rs, s _ _ a, b, fun i r w p q => s _ _ (c i r w p q)⟩
theorem Rws.nil {H : Hp} {D : Addr} (h : H D = some (.lst [])) : Rws H D [] := ⟨[], h, rfl, fun i r w p => by simp at p⟩
theorem Rws.push {H : Hp} {D : Addr} {rows : List (List Int)} (h : Rws H D rows) {r : Addr} {w : List Int} (hr : IT H r w) : ∃ acc, H D = some (.lst acc) ∧ acc.length = rows.length ∧ Rws (upd H D (.lst (acc ++ [.ref r]))) D (rows ++ [w]) := by
  obtain ⟨rs, a, b, c⟩ := h
  have nt : ∀ {x : Addr} {u : List Int}, IT H x u → x ≠ D := fun h z => by
    unfold IT at h
    rw [z, a] at h
    cases h
  refine ⟨_, a, by rw [List.length_map, b], rs ++ [r], by rw [upd_same, List.map_append]; rfl, by rw [List.length_append, List.length_append, b]; rfl, fun i x u p q => ?_⟩
  by_cases lt : i < rs.length
  · rw [List.getElem?_append_left lt] at p
    rw [List.getElem?_append_left (by omega)] at q
    have := c i x u p q
    exact (upd_ne (nt this)).trans this
  · rw [List.getElem?_append_right (by omega)] at p
    rw [List.getElem?_append_right (by omega)] at q
    have i0 : i = rs.length := by
      have := (List.getElem?_eq_some_iff.mp p).1
      simp at this
      omega
    subst i0
    rw [Nat.sub_self] at p
    rw [b, Nat.sub_self] at q
    cases p
    cases q
    exact (upd_ne (nt hr)).trans hr
structure Mk2 (H H' : Hp) (l1 l2 : Addr) (rows : List (List Int)) (os : List Int) : Prop where
  same : Same H H'
  f1 : H l1 = none
  f2 : H l2 = none
  ne : l1 ≠ l2
  e1 : ∃ rs : List Addr, H' l1 = some (.lst (rs.map V.ref)) ∧ rs.length = rows.length ∧ ∀ (i : Nat) (r : Addr) (w : List Int), rs[i]? = some r → rows[i]? = some w → IT H' r w
  e2 : H' l2 = some (.lst (os.map V.int))
section
variable {H H' H2 : Hp} {l1 l2 : Addr} {rows : List (List Int)} {os : List Int}
theorem Mk2.on (m : Mk2 H H' l1 l2 rows os) (s : Same H' H2) : Mk2 H H2 l1 l2 rows os :=
  ⟨m.same.trans s, m.f1, m.f2, m.ne, let ⟨rs, a, b, c⟩ := m.e1; ⟨rs, s _ _ a, b, fun i r w p q => s _ _ (c i r w p q)⟩, s _ _ m.e2⟩
theorem Mk2.start (h1 : H l1 = none) (h2 : (upd H l1 (.lst [])) l2 = none) : Mk2 H (upd (upd H l1 (.lst [])) l2 (.lst [])) l1 l2 [] [] := by
  have n : l1 ≠ l2 := fun z => by
    rw [← z, upd_same] at h2
    cases h2
  have s1 := same_upd (o := .lst []) (Same.refl H) h1
  refine ⟨same_upd s1 h2, h1, s1.free h2, n, ⟨[], ?_, rfl, fun i r w p => by simp at p⟩, upd_same⟩
  rw [upd_ne n]
  exact upd_same
theorem Mk2.row (m : Mk2 H H' l1 l2 rows os) {r : Addr} {w : List Int} (hr : IT H' r w) : ∃ acc, H' l1 = some (.lst acc) ∧ acc.length = rows.length ∧ Mk2 H (upd H' l1 (.lst (acc ++ [.ref r]))) l1 l2 (rows ++ [w]) os := by
  obtain ⟨rs, a, b, c⟩ := m.e1
  have nt : ∀ {x : Addr} {u : List Int}, IT H' x u → x ≠ l1 := fun h z => by
    unfold IT at h
    rw [z, a] at h
    cases h
  refine ⟨_, a, by rw [List.length_map, b], ⟨same_set m.same m.f1, m.f1, m.f2, m.ne, ⟨rs ++ [r], ?_, by rw [List.length_append, List.length_append, b]; rfl, fun i x u p q => ?_⟩, by rw [upd_ne m.ne.symm]; exact m.e2⟩⟩
  · rw [upd_same, List.map_append]
    rfl
  · by_cases lt : i < rs.length
    · rw [List.getElem?_append_left lt] at p
      rw [List.getElem?_append_left (by omega)] at q
      have := c i x u p q
      exact (upd_ne (nt this)).trans this
    · rw [List.getElem?_append_right (by omega)] at p
      rw [List.getElem?_append_right (by omega)] at q
      have i0 : i = rs.length := by
        have := (List.getElem?_eq_some_iff.mp p).1
        simp at this
        omega
      subst i0
      rw [Nat.sub_self] at p
      rw [b, Nat.sub_self] at q
      cases p
      cases q
      exact (upd_ne (nt hr)).trans hr
theorem Mk2.out (m : Mk2 H H' l1 l2 rows os) (z : Int) : Mk2 H (upd H' l2 (.lst (os.map V.int ++ [.int z]))) l1 l2 rows (os ++ [z]) := by
  obtain ⟨rs, a, b, c⟩ := m.e1
  have nt : ∀ {x : Addr} {u : List Int}, IT H' x u → x ≠ l2 := fun h z => by
    unfold IT at h
    rw [z, m.e2] at h
    cases h
  refine ⟨same_set m.same m.f2, m.f1, m.f2, m.ne, ⟨rs, by rw [upd_ne m.ne]; exact a, b, fun i x u p q => ?_⟩, ?_⟩
  · have := c i x u p q
    exact (upd_ne (nt this)).trans this
  · rw [upd_same, List.map_append]
    rfl
theorem Mk2.done (m : Mk2 H H' l1 l2 rows os) {ls o : Int} : ∃ rs : List Addr, H' l1 = some (.lst (rs.map V.ref)) ∧ ∀ mv, H' mv = none → ∀ ou, (upd H' mv (.tup (rs.map V.ref))) ou = none → ∀ p, (upd (upd H' mv (.tup (rs.map V.ref))) ou (.tup (os.map V.int))) p = none →
    Same H (upd (upd (upd H' mv (.tup (rs.map V.ref))) ou (.tup (os.map V.int))) p (.tup [.int ls, .int o, .ref mv, .ref ou])) ∧ H p = none ∧ MA (upd (upd (upd H' mv (.tup (rs.map V.ref))) ou (.tup (os.map V.int))) p (.tup [.int ls, .int o, .ref mv, .ref ou])) p ⟨ls, o, rows, os⟩ := by
  obtain ⟨rs, a, b, c⟩ := m.e1
  refine ⟨rs, a, fun mv hmv ou hou p hp => ?_⟩
  have s4 := same_upd (o := .tup (rs.map V.ref)) (Same.refl H') hmv
  have s5 := same_upd (o := .tup (os.map V.int)) s4 hou
  have s6 := same_upd (o := .tup [.int ls, .int o, .ref mv, .ref ou]) s5 hp
  refine ⟨m.same.trans s6, (m.same.trans s5).free hp, mv, ou, rs, ?_⟩
  have mo : ou ≠ mv := fun z => by
    rw [z, upd_same] at hou
    cases hou
  have m1 : mv ≠ p := fun z => by
    rw [← z, upd_ne mo.symm, upd_same] at hp
    cases hp
  have m2 : ou ≠ p := fun z => by
    rw [← z, upd_same] at hp
    cases hp
  exact ⟨upd_same, by rw [upd_ne m1, upd_ne mo.symm, upd_same], by show upd _ p _ ou = _; rw [upd_ne m2, upd_same], b, fun i r w a b => s6 _ _ (c i r w a b)⟩
end
end Mz

set_option Elab.async false
set_option linter.all false
set_option maxRecDepth 100000
set_option maxHeartbeats 4000000
/-! pairs of states that are met from a pair, in a list of tuples -/
namespace Mz
open PySem PySem.Spec PyProof.Rows L2
theorem ifDT {b : Bool} {p q : Prop} (e : b = true) (h : p) : if b = true then p else q := by rw [if_pos e]; exact h
theorem ifDF {b : Bool} {p q : Prop} (e : b = false) (h : q) : if b = true then p else q := by rw [if_neg (by rw [e]; decide)]; exact h
theorem kit_tuples {K : PySem.W.Frag} : PySem.W.kitOne K (.type "tuple") (.type "tuple") = some true := if_pos (beq_self_eq_true _)
theorem dec_nat (x y : Nat) : decide (V.int (x : Int) = V.int (y : Int)) = decide (x = y) := by
  rw [Bool.eq_iff_iff, decide_eq_true_iff, decide_eq_true_iff]
  constructor
  · intro h
    injection h with h
    omega
  · rintro rfl
    rfl
theorem PrL.nil {H : Hp} : PrL H [] [] := ⟨rfl, fun i x p h => by simp at h⟩
theorem PrL.one {H : Hp} {t : Addr} {p : Pr} (h : H t = some (.tup [.int p.1, .int p.2])) : PrL H [t] [p] := ⟨rfl, fun i x q h1 h2 => by
  have i0 : i = 0 := by
    have := (List.getElem?_eq_some_iff.mp h1).1
    simp at this
    exact this
  subst i0
  cases h1
  cases h2
  exact h⟩
theorem PrL.push {H : Hp} {ts : List Addr} {D : List Pr} {pa t : Addr} {p : Pr} (pr : PrL H ts D) (e1 : H pa = some (.lst (ts.map V.ref))) (et : H t = some (.tup [.int p.1, .int p.2])) : PrL (upd H pa (.lst (ts.map V.ref ++ [.ref t]))) (ts ++ [t]) (D ++ [p]) := by
  have keep : ∀ {x u}, H x = some (HO.tup u) → (upd H pa (.lst (ts.map V.ref ++ [.ref t]))) x = some (.tup u) := fun {x u} h => by
    rw [upd_ne fun z => by
      rw [z, e1] at h
      cases h]
    exact h
  refine ⟨by rw [List.length_append, List.length_append, pr.1]; rfl, fun k x q h1 h2 => ?_⟩
  rcases get_app h2 with y | ⟨y1, y2⟩
  · rcases get_app h1 with u | ⟨u1, u2⟩
    · exact keep (pr.2 k x q u y)
    · have := (List.getElem?_eq_some_iff.mp y).1
      rw [← pr.1] at this
      omega
  · rcases get_app h1 with u | ⟨u1, u2⟩
    · have := (List.getElem?_eq_some_iff.mp u).1
      rw [pr.1] at this
      omega
    · rw [u2, y2]
      exact keep et
/-- the pairs met from p0, the ones below i done -/
structure MetG (A B : Mach) (p0 : Pr) (D : List Pr) (i : Nat) : Prop where
  st : D[0]? = some p0
  nd : D.Nodup
  inp : ∀ p ∈ D, A.St p.1 ∧ B.St p.2
  rch : ∀ p ∈ D, ∃ v, Lt A.ls v ∧ p = (A.run p0.1 v, B.run p0.2 v)
  done : ∀ j p, j < i → D[j]? = some p → A.out p.1 = B.out p.2 ∧ ∀ a : Nat, (a : Int) < A.ls → (A.next p.1 a, B.next p.2 a) ∈ D
section
variable {A B : Mach} {p0 : Pr} {D : List Pr} {i : Nat}
theorem pairs_in {D : List Pr} (nd : D.Nodup) (inp : ∀ p ∈ D, A.St p.1 ∧ B.St p.2) : D.length ≤ A.rows.length * B.rows.length := by
  have h := nodup_few (A.rows.length * B.rows.length) (D.map fun p => p.1.toNat * B.rows.length + p.2.toNat) ?_ ?_
  · rw [List.length_map] at h
    exact h
  · refine List.pairwise_map.mpr (List.Pairwise.imp_of_mem (fun {p q} hp hq ne e => ne ?_) nd)
    obtain ⟨⟨a1, a2⟩, b1, b2⟩ := inp p hp
    obtain ⟨⟨c1, c2⟩, d1, d2⟩ := inp q hq
    have e1 : p.2.toNat = q.2.toNat := by
      have := congrArg (· % B.rows.length) e
      simp only [Nat.mul_add_mod_self_right, Nat.mul_comm _ B.rows.length, Nat.mul_add_mod] at this
      rw [Nat.mod_eq_of_lt (by omega), Nat.mod_eq_of_lt (by omega)] at this
      exact this
    have e2 : p.1.toNat = q.1.toNat := by
      rw [e1] at e
      exact Nat.eq_of_mul_eq_mul_right (by omega) (Nat.add_right_cancel e)
    exact Prod.ext (by omega) (by omega)
  · intro x hx
    obtain ⟨p, hp, rfl⟩ := List.mem_map.mp hx
    obtain ⟨⟨a1, a2⟩, b1, b2⟩ := inp p hp
    have h1 : p.1.toNat + 1 ≤ A.rows.length := by omega
    have h2 : p.2.toNat < B.rows.length := by omega
    calc p.1.toNat * B.rows.length + p.2.toNat < p.1.toNat * B.rows.length + B.rows.length := by omega
      _ = (p.1.toNat + 1) * B.rows.length := by rw [Nat.succ_mul]
      _ ≤ _ := Nat.mul_le_mul_right _ h1
theorem MetG.few (m : MetG A B p0 D i) : D.length ≤ A.rows.length * B.rows.length := pairs_in m.nd m.inp
theorem MetG.start (h1 : A.St p0.1) (h2 : B.St p0.2) : MetG A B p0 [p0] 0 :=
  ⟨rfl, by simp, fun p hp => by rw [List.mem_singleton.mp hp]; exact ⟨h1, h2⟩, fun p hp => ⟨[], fun z hz => absurd hz (by simp), by rw [List.mem_singleton.mp hp]; rfl⟩, fun j p h => absurd h (Nat.not_lt_zero _)⟩
theorem MetG.sim (m : MetG A B p0 D i) (h : D.length ≤ i) (gA : Good A) : Sim A B p0.1 p0.2 := by
  have cl : ∀ p ∈ D, A.out p.1 = B.out p.2 ∧ ∀ a : Nat, (a : Int) < A.ls → (A.next p.1 a, B.next p.2 a) ∈ D := fun p hp => by
    obtain ⟨j, hj⟩ := List.getElem?_of_mem hp
    have jl := (List.getElem?_eq_some_iff.mp hj).1
    exact m.done j p (by omega) hj
  have run : ∀ v, Lt A.ls v → (A.run p0.1 v, B.run p0.2 v) ∈ D := by
    intro v
    induction v using snoc_ind with
    | h0 => exact fun _ => List.mem_of_getElem? m.st
    | hs v a ih =>
      intro hv
      obtain ⟨v1, a0, a1⟩ := lt_snoc.mp hv
      rw [run_snoc, run_snoc]
      have := (cl _ (ih v1)).2 a.toNat (by omega)
      rw [show ((a.toNat : Nat) : Int) = a by omega] at this
      exact this
  exact fun v hv => (cl _ (run v hv)).1
theorem MetG.apart (m : MetG A B p0 D i) {p : Pr} (hp : p ∈ D) (h : A.out p.1 ≠ B.out p.2) : ¬ Sim A B p0.1 p0.2 := fun s => by
  obtain ⟨v, hv, e⟩ := m.rch p hp
  rw [e] at h
  exact h (s v hv)
theorem MetG.push (m : MetG A B p0 D i) (gA : Good A) (gB : Good B) (ls : A.ls = B.ls) {p : Pr} (hp : p ∈ D) {z : Int} (h0 : 0 ≤ z) (h1 : z < A.ls) (n : (A.next p.1 z, B.next p.2 z) ∉ D) (hi : i ≤ D.length) : MetG A B p0 (D ++ [(A.next p.1 z, B.next p.2 z)]) i := by
  obtain ⟨p1, p2⟩ := m.inp p hp
  refine ⟨get_app1 m.st, ?_, fun q hq => ?_, fun q hq => ?_, fun k q hk hq => ?_⟩
  · refine List.nodup_append.mpr ⟨m.nd, by simp, fun x hx y hy e => ?_⟩
    rw [List.mem_singleton.mp hy] at e
    rw [e] at hx
    exact n hx
  · rcases List.mem_append.mp hq with h | h
    · exact m.inp q h
    · rw [List.mem_singleton.mp h]
      exact ⟨(gA.step p1 h0 h1).1, (gB.step p2 h0 (by rw [← ls]; exact h1)).1⟩
  · rcases List.mem_append.mp hq with h | h
    · exact m.rch q h
    · rw [List.mem_singleton.mp h]
      obtain ⟨v, hv, e⟩ := m.rch p hp
      refine ⟨v ++ [z], lt_snoc.mpr ⟨hv, h0, h1⟩, ?_⟩
      rw [run_snoc, run_snoc, e]
  · rw [List.getElem?_append_left (by omega)] at hq
    obtain ⟨d1, d2⟩ := m.done k q hk hq
    exact ⟨d1, fun x hx => List.mem_append.mpr (.inl (d2 x hx))⟩
theorem MetG.next (m : MetG A B p0 D i) {p : Pr} (hp : D[i]? = some p) (h : A.out p.1 = B.out p.2) (ins : ∀ a : Nat, (a : Int) < A.ls → (A.next p.1 a, B.next p.2 a) ∈ D) : MetG A B p0 D (i + 1) := by
  refine ⟨m.st, m.nd, m.inp, m.rch, fun j q hj hq => ?_⟩
  by_cases ej : j = i
  · subst ej
    rw [hp] at hq
    cases hq
    exact ⟨h, ins⟩
  · exact m.done j q (by omega) hq
end
end Mz

set_option Elab.async false
set_option linter.all false
set_option maxRecDepth 100000
set_option maxHeartbeats 4000000
namespace K11
open PySem PySem.Spec PyProof.Rows L2 Mz
/-- the rows: the state words and what is one letter longer -/
def rowsOf (L : Nat) (S : List (List Int)) : List (List Int) := S ++ (S.flatMap (moreW L)).filter fun w => decide (w ∉ S)
theorem valI {S : List (List Int)} {w : List Int} : (valV (kvsI S) (keyW w)).isSome = decide (w ∈ S) := by
  unfold valV
  rw [Option.isSome_map, Bool.eq_iff_iff, List.find?_isSome, decide_eq_true_iff]
  constructor
  · rintro ⟨x, hx, e⟩
    have e := of_decide_eq_true e
    unfold kvsI at hx
    obtain ⟨y, hy, rfl⟩ := List.mem_map.mp hx
    have e : keyW y.1 = keyW w := e
    rw [← keyW_inj e]
    have := List.mem_zipIdx_iff_getElem?.mp (show (y.1, y.2) ∈ S.zipIdx from hy)
    exact List.mem_of_getElem? this
  · intro h
    obtain ⟨i, hi⟩ := List.mem_iff_getElem?.mp h
    exact ⟨_, List.mem_of_getElem? (kvsI_at hi), decide_eq_true rfl⟩
def spRows (A : Ads) : Sp := fun vs H Q _ => ∃ (p sd td : Addr) (L : Nat) (S T : List (List Int)), vs = [.ref p] ∧ TabAt A.a_Table H p sd td (L : Int) S T ∧ 1 ≤ L ∧ L ≤ 4 ∧ S.length ≤ 100 ∧ (∀ w ∈ S, w.length ≤ 1000) ∧
  ∀ (H' : Hp) (q : Addr) (ts : List Addr), Same H H' → H' q = some (.lst (ts.map V.ref)) → TupL H' ts (rowsOf L S) → Q (.ref q) H'
theorem TupL.unlock {H : Hp} {ts : List Addr} {ws : List (List Int)} {d : Addr} {u v : HO} (h : TupL H ts ws) (e : H d = some u) (n : ∀ xs, u ≠ .tup xs) : TupL (upd H d v) ts ws :=
  ⟨h.1, fun i a w p q => (upd_ne fun z => by
    have := h.2 i a w p q
    have this : H a = some (.tup (w.map V.int)) := this
    rw [z, e] at this
    exact n _ (Option.some.inj this)).trans (h.2 i a w p q)⟩
section
variable {P : Program} {w : World} {K : PySem.W.Frag} {mg : Str → Option Value} {base : Heap} {A : Ads}
theorem ok_rows (T : Txt K mg A) : FnOk P w K mg base CX0 1 A.a_Table_rows A.d_Table_rows ["self"] (spRows A) := by
  refine T.F_Table_rows.ok sc_Table_rows (fun vs H Q E h => ?_) (fun cdv Ar outer s H vs Q E hr h => ?_)
  · obtain ⟨_, _, _, _, _, _, rfl, _⟩ := h
    rfl
  · refine ⟨_, (pss_cons (ps_lock (ps_setLc2 (i := 1) (own := [("word", 2), ("letter", 3)]) (vs1 := [3]) (g := (gName 2)) (g1 := (gName 3)) (tt := tYes) (tt1 := tYes) (wi1 := iRng1 (tCons (tFld K (tVar 0) (Str.ofString "_letters")) tNil)) rfl sc_Table_rows.nd rfl rfl (sw_true rfl rfl rfl (by decide +kernel)) (pi_keys (pe_fld (pv 0) rfl)) (blkOk_by (N := ["self", "longer", "word", "letter"]) (sc := defScope s_Table_rows) (by decide +kernel)) (by decide) (fun _ _ _ _ _ => (pg_name (i := 2) sc_Table_rows.nd rfl (Or.inl rfl))) (fun _ _ _ _ _ => pts_nil) (fun _ _ _ _ _ => (pi_range1 (by rfl) T.n_range (pa_cons (pe_fld (pv 0) rfl) pa_nil))) (fun _ _ _ _ _ => (pg_name (i := 3) sc_Table_rows.nd rfl (Or.inl rfl))) (fun _ _ _ _ _ => pts_nil) (fun _ _ _ _ _ => (pe_op (r := rCatA K) op_catA (pv 2) (pe_tup (pa_cons (pv 3) pa_nil))))))
      (pss_one (ps_ret (pe_op op_cat (pe_callTy (T := "list") (call_list_dT rfl) (by rfl) T.n_list (by decide +kernel) (pa_cons (pe_fld (pv 0) rfl) pa_nil)) (pe_lc (own := [("word", 2)]) (g := (gName 2)) (tt := tB (tDNotIn (tVar 2) (tFld K (tVar 0) (Str.ofString "_states")))) rfl sc_Table_rows.nd (pi_list (pv 1)) (blkOk_by (N := ["self", "longer", "word", "letter"]) (sc := defScope s_Table_rows) (by decide +kernel)) (fun _ _ _ _ _ => (pg_name (i := 2) sc_Table_rows.nd rfl (Or.inl rfl))) (fun _ _ _ _ _ => (pts_one (pt_cmp (pc_dnotin (hu_of hr) (pv 2) (pe_fld (pv 0) rfl))))) (fun _ _ _ _ _ => (pv 2))))))), ?_⟩
    obtain ⟨p, sd, td, L, S, Tl, rfl, hs, L1, L4, few, short, fin⟩ := h
    obtain ⟨⟨dx, ob⟩, di, _⟩ := id hs
    refine ⟨sd, _, di, trivial, fun od => ?_⟩
    have pd : p ≠ sd := fun z => by
      rw [z, di] at ob
      cases ob
    have obF : (upd H sd (.frz od (.dT (kvsI S)))) p = some (.ins A.a_Table dx (sF (L : Int) sd td)) := by rw [upd_ne pd]; exact ob
    refine ⟨_, rfl, p, _, dx, _, _, rfl, obF, T.cl_Table, T.nA_Table_states, sF_states _ _ _, sd, od, rfl, .inr ⟨_, upd_same, fun D hD => ?_⟩⟩
    refine it_any walk_keysT (fun i H' => ∃ us : List Addr, H' D = some (.lst (us.map V.ref)) ∧ TupL H' us ((S.take i).flatMap (moreW L)) ∧ Same (upd H sd (.frz od (.dT (kvsI S)))) H') ⟨[], upd_same, TupL.nil, same_upd (Same.refl _) hD⟩ (fun i H' _ ⟨_, _, _, z⟩ => z _ _ upd_same) ?_ ?_
    · rintro i x H3 H3x hi ⟨us, e3, t3, s3⟩ ⟨rfl, k, v, q, hk, rfl, hq⟩
      have il : i < S.length := by rw [kvsI_len] at hi; exact hi
      have ew := List.getElem?_eq_getElem il
      generalize S[i] = w at ew
      rw [kvsI_at ew] at hk
      cases hk
      rw [keyW_V] at hq
      have wl := short w (List.mem_of_getElem? ew)
      refine ⟨rfl, ?_⟩
      refine ⟨_, rfl, p, _, dx, _, _, rfl, s3 _ _ obF, T.cl_Table, T.nA_Table_letters, sF_letters _ _ _, L, rfl, by omega, by omega, ?_⟩
      refine it_any (walk_range (lo := 0) (n := ((L : Int)).toNat)) (fun a H' => ∃ us : List Addr, H' D = some (.lst (us.map V.ref)) ∧ TupL H' us ((S.take i).flatMap (moreW L) ++ (List.range a).map fun a : Nat => w ++ [(a : Int)]) ∧ Same (upd H sd (.frz od (.dT (kvsI S)))) H' ∧ ∀ b xs, H3x b = some (.tup xs) → H' b = some (.tup xs)) ⟨us, e3, by rw [List.range_zero, List.map_nil, List.append_nil]; exact t3, s3, fun _ _ e => e⟩ (fun _ _ _ _ => trivial) ?_ ?_
      · clear e3 t3 s3 us
        rintro a x H4x H4 ha ⟨us, e4, t4, s4, sb⟩ ⟨rfl, rfl⟩
        have ea : (0 : Int) + (a : Int) = (a : Int) := by omega
        dsimp only
        rw [ea]
        refine ⟨rfl, ?_⟩
        refine ⟨_, rfl, _, rfl, (by show 1 ≤ sizeLine; decide), fun q2 hq2 => ?_⟩
        have s5 := same_upd (o := .tup [.int (a : Int)]) (Same.refl H4) hq2
        have eq : (upd H4 q2 (.tup [.int (a : Int)])) q2 = some (.tup [.int (a : Int)]) := upd_same
        generalize upd H4 q2 _ = H5 at *
        refine catA_any (s5 _ _ (sb _ _ hq)) eq (by rw [List.length_map]; exact Nat.le_of_lt (Nat.lt_of_le_of_lt (by show w.length + 1 ≤ 1001; omega) (by decide))) fun H6 r s6 er => ?_
        have e6 := s6 _ _ (s5 _ _ e4)
        have t6 := (t4.same s5).same s6
        have lu := t6.1
        rw [List.length_append, flat_len, List.length_take, List.length_map, List.length_range] at lu
        have few2 : us.length ≤ 5000 := by
          have : min i S.length * L ≤ 100 * 4 := Nat.mul_le_mul (by omega) L4
          omega
        refine ⟨_, e6, ?_, us ++ [r], by rw [upd_same, List.map_append]; rfl, ?_, same_set ((s4.trans s5).trans s6) hD, fun b xs e => ?_⟩
        · rw [List.length_map]
          exact Nat.lt_of_le_of_lt few2 (by decide)
        · rw [List.range_succ, List.map_append, ← List.append_assoc]
          refine t6.push e6 ?_
          show H6 r = some (HO.tup ((w ++ [(a : Int)]).map V.int))
          rw [er, List.map_append]
          rfl
        · have e7 := s6 _ _ (s5 _ _ (sb b xs e))
          exact (upd_ne fun z => by rw [z, e6] at e7; cases e7).trans e7
      · rintro H4 ⟨us, e4, t4, s4, _⟩
        refine ⟨us, e4, ?_, s4⟩
        rw [take_more ew, List.flatMap_append, List.flatMap_cons, List.flatMap_nil, List.append_nil]
        exact t4
    rintro H3 ⟨us, e3, t3, s3⟩
    rw [kvsI_len, List.take_length] at t3
    refine ⟨s3 _ _ upd_same, ?_⟩
    have Dd : D ≠ sd := fun z => by
      rw [z, upd_same] at hD
      cases hD
    have eD : (upd H3 sd (.dT (kvsI S))) D = some (.lst (us.map V.ref)) := (upd_ne Dd).trans e3
    have sU := unlock_same di s3
    have tU : TupL (upd H3 sd (.dT (kvsI S))) us (S.flatMap (moreW L)) := K11.TupL.unlock t3 (s3 _ _ upd_same) (fun xs z => by cases z)
    have dU : (upd H3 sd (.dT (kvsI S))) sd = some (.dT (kvsI S)) := upd_same
    generalize upd H3 sd (.dT (kvsI S)) = H4 at *
    have ob4 := sU _ _ ob
    refine ⟨_, rfl, p, _, dx, _, _, rfl, ob4, T.cl_Table, T.nA_Table_states, sF_states _ _ _, sd, _, rfl, .inl dU, fun q bs hq ks => ?_⟩
    have s5 := same_upd (o := .lst (bs.map V.ref)) (Same.refl H4) hq
    have eq : (upd H4 q (.lst (bs.map V.ref))) q = some (.lst (bs.map V.ref)) := upd_same
    have tb : TupL H4 bs S := by
      refine ⟨?_, fun i b w p1 p2 => ?_⟩
      · have := Paired.length ks
        rw [kvsI_len] at this
        exact this.symm
      · obtain ⟨b2, hb2, e2⟩ := Mz.paired_get ks (kvsI_at p2)
        rw [p1] at hb2
        cases hb2
        have e2 : H4 b = some (.tup ((keyW w).map kV)) := e2
        rw [keyW_V] at e2
        exact e2
    have tb5 := tb.same s5
    have tU5 := tU.same s5
    have eD5 := s5 _ _ eD
    generalize upd H4 q (.lst (bs.map V.ref)) = H5 at *
    refine ⟨_, rfl, D, rfl, ⟨_, SqL.of eD5⟩, fun D2 hD2 => ?_⟩
    refine lc_list (K := K) (a := D) (xs := us.map V.ref) (fun i H' => Same H5 H' ∧ ∃ vs : List Addr, H' D2 = some (.lst (vs.map V.ref)) ∧ TupL H' vs (((S.flatMap (moreW L)).take i).filter fun w => decide (w ∉ S))) ⟨same_upd (Same.refl _) hD2, [], upd_same, TupL.nil⟩ (fun i H' _ z => SqL.of (z.1 _ _ eD5)) ?_ ?_
    · rintro i y H6 hy ⟨s6, vs, e6, t6⟩
      obtain ⟨t, ht, rfl⟩ := ofV hy
      have il : i < (S.flatMap (moreW L)).length := by rw [← tU5.1]; exact (List.getElem?_eq_some_iff.mp ht).1
      have ew := List.getElem?_eq_getElem il
      have et := s6 _ _ (tU5.2 i t _ ht ew)
      generalize (S.flatMap (moreW L))[i] = w at *
      have s06 := (sU.trans s5).trans s6
      refine ⟨rfl, ?_⟩
      have et2 : H6 t = some (.tup ((keyW w).map kV)) := by rw [keyW_V]; exact et
      refine ⟨_, rfl, _, rfl, p, _, dx, _, _, rfl, s06 _ _ ob, T.cl_Table, T.nA_Table_states, sF_states _ _ _, sd, _, rfl, DGet.t (k := keyW w) ((s5.trans s6) _ _ dU) et2, ?_⟩
      refine ⟨_, rfl, ?_⟩
      rw [valI]
      by_cases c : w ∈ S
      · refine ifDF (by simp [c]) ⟨s6, vs, e6, ?_⟩
        rw [take_more ew, List.filter_append]
        simp only [List.filter_cons, List.filter_nil, c, not_true_eq_false, decide_false]
        simpa using t6
      · refine ifDT (by simp [c]) ?_
        have lv := t6.1
        have l1 : (((S.flatMap (moreW L)).take i).filter fun w => decide (w ∉ S)).length ≤ i := Nat.le_trans (List.length_filter_le _ _) (by rw [List.length_take]; omega)
        have l2 : (S.flatMap (moreW L)).length ≤ 400 := by
          rw [flat_len]
          exact Nat.mul_le_mul few L4
        refine ⟨_, rfl, _, e6, ?_, same_set s6 hD2, vs ++ [t], by rw [upd_same, List.map_append]; rfl, ?_⟩
        · rw [List.length_map]
          exact Nat.lt_of_le_of_lt (by omega : vs.length ≤ 400) (by decide)
        · rw [take_more ew, List.filter_append]
          simp only [List.filter_cons, List.filter_nil, c, not_false_eq_true, decide_true, if_true]
          exact t6.push e6 et
    rintro H6 ⟨s6, vs, e6, t6⟩
    rw [List.length_map, tU5.1, List.take_length] at t6
    have eq6 := s6 _ _ eq
    have l2 : (S.flatMap (moreW L)).length ≤ 400 := by
      rw [flat_len]
      exact Nat.mul_le_mul few L4
    have lv := t6.1
    have l3 := List.length_filter_le (fun w => decide (w ∉ S)) (S.flatMap (moreW L))
    have lb := tb.1
    refine ⟨q, D2, _, _, rfl, rfl, eq6, e6, ?_, fun r hr3 => ?_⟩
    · rw [List.length_map, List.length_map]
      exact Nat.le_of_lt (Nat.lt_of_le_of_lt (by omega : bs.length + vs.length ≤ 500) (by decide))
    have s7 := same_upd (o := .lst (bs.map V.ref ++ vs.map V.ref)) (Same.refl H6) hr3
    refine fin _ r (bs ++ vs) (((sU.trans s5).trans s6).trans s7) (by rw [upd_same, List.map_append]) ?_
    have tb7 := (tb5.same s6).same s7
    have tv7 := t6.same s7
    refine ⟨by unfold rowsOf; rw [List.length_append, List.length_append, tb7.1, tv7.1], fun i a w p1 p2 => ?_⟩
    unfold rowsOf at p2
    by_cases c : i < bs.length
    · rw [List.getElem?_append_left c] at p1
      rw [List.getElem?_append_left (by omega)] at p2
      exact tb7.2 i a w p1 p2
    · rw [List.getElem?_append_right (by omega)] at p1
      rw [List.getElem?_append_right (by omega), ← lb] at p2
      exact tv7.2 _ a w p1 p2
end
end K11

set_option Elab.async false
set_option linter.all false
set_option maxRecDepth 100000
set_option maxHeartbeats 4000000
/-! name = {k: v for ..} with tuples as keys, the name a local: stored in the comprehension's last step -/
namespace Mz
open PySem PySem.Spec PyProof.Rows L2
section
variable {X : Cx}
theorem dc_coreT {pins : List (Addr × Obj)} {s : Shared} {σ : L2.St} {H : Hp} {Q : VK} {pos' : Pos} {use : Option (Value → Sem Unit)} {Qf : Value → Shared → Prop} (I : Inv X pins σ H s) {kx vx tg iter : Expr} {ifs : List Expr} {scope : Scope} {own : List (Str × Nat)} {pos : Pos} {wi : TI} {g : TG} {tt : TT} {tk tv : TE} (hu : X.A.units + 1 < cLine) (hc : X.calm = true) (hN : X.N.Nodup) (hi : PI X tg iter wi) (ok : BlkOk X.N X.env.scope scope own)
    (hg : ∀ (s : Shared) (H : Hp) (C : Addr) (cl : List (Str × Addr)) (fp : List Addr), PG (X.blk s H scope (compEnvC scope cl C X.env) fp) tg g) (ht : ∀ (s : Shared) (H : Hp) (C : Addr) (cl : List (Str × Addr)) (fp : List Addr), PTs (X.blk s H scope (compEnvC scope cl C X.env) fp) ifs tt)
    (hk : ∀ (s : Shared) (H : Hp) (C : Addr) (cl : List (Str × Addr)) (fp : List Addr), PE (X.blk s H scope (compEnvC scope cl C X.env) fp) kx tk) (he : ∀ (s : Shared) (H : Hp) (C : Addr) (cl : List (Str × Addr)) (fp : List Addr), PE (X.blk s H scope (compEnvC scope cl C X.env) fp) vx tv) (hs : ∀ x, foldedSetIterable iter X.env x = pure x)
    (h : tDcT wi g tt tk tv (own.map (·.2)) σ H Q)
    (hRR : ∀ D C s' m H', Inv X pins σ H' s' → Q (.ref D) H' → s'.heap.Ns C m → FpOk X pins H' C → compPost (model X.prog X.w) X.A X.xe use Qf (.ref D) C (.ok .next) s') :
    wpAny (model X.prog X.w) X.A (comprehension (.DictComp kx vx [⟨tg, iter, ifs, 0⟩] scope pos) scope X.env pos' newDict false (eval iter X.env) use) Qf X.xe s := by
  have fr : ∀ y ∈ scope.names, y.2 = .free → ∃ c, X.env.cells.lookup y.1 = some c := fun y hy e => (ok.free y hy e).elim (fun k => I.ok.has _ (.inl k)) (fun k => I.ok.has _ (.inr k))
  refine wpAny_comprehension_free (use := use) rfl hs (closure_ok fr) ok.kind (fun y hy e => by rw [ok.uniq y hy, e]) (thn (hi.run pins s σ H _ I h) fun _ _ hx => thn hx fun itv s2 h2 => ?_)
  obtain ⟨it, fp, tn, J, H2, rfl, I2, T, st2, f2, q⟩ := h2
  refine wpAny_newObj_type (newEnv_comp ?_)
  generalize eD : s2.heap.objs.size = D
  obtain ⟨W, ⟨m0, w0⟩, turn⟩ := q D (I2.hok.fresh (Nat.le_of_eq eD))
  generalize e3 : ({ s2 with heap := s2.heap.push { cls := .type "dict", data := .dict #[] } } : Shared) = s3
  have hp3 : s3.heap = s2.heap.push { cls := .type "dict", data := .dict #[] } := by rw [← e3]
  have I3 : Inv X pins σ (upd H2 D (.dT [])) s3 := by
    subst e3
    exact I2.laid (t' := s2.toks) (fun b o e => Heap.get?_push_of_some _ e) (Nat.le_of_eq eD) (by rw [← eD]; exact dt_empty s2.heap I2.big)
  have below : ∀ b ∈ fp, b < s2.heap.objs.size := fun b hb => let ⟨_, e, _⟩ := T.obj _ _ st2 b hb; Heap.lt_size e
  have f3 : ∀ b ∈ fp, FpOk X pins (upd H2 D (.dT [])) b ∧ b < s3.heap.objs.size := fun b hb =>
    ⟨⟨(upd_ne (by rw [← eD]; exact Nat.ne_of_lt (below b hb))).trans (f2 b hb).1, (f2 b hb).2⟩, by rw [hp3, Heap.size_push]; exact Nat.lt_succ_of_lt (below b hb)⟩
  have st3 : tn 0 s3.heap := T.keep _ _ _ st2 fun b _ o e => by rw [hp3]; exact Heap.get?_push_of_some _ e
  have B0 := block_start I3 ok hN f3
  generalize ecl : cellsFrom (s3.heap.objs.size + 1) scope.names (cloFrom X.env.cells scope.names []) = cl at B0
  have pg := hg s3 (upd H2 D (.dT [])) s3.heap.objs.size cl fp
  have pt := ht s3 (upd H2 D (.dT [])) s3.heap.objs.size cl fp
  have pk := hk s3 (upd H2 D (.dT [])) s3.heap.objs.size cl fp
  have pe := he s3 (upd H2 D (.dT [])) s3.heap.objs.size cl fp
  show codeAny _ _ (.compStart (.DictComp kx vx [⟨tg, iter, ifs, 0⟩] scope pos) 0 (.ref it) (.ref D) (compEnvC scope cl s3.heap.objs.size X.env)) (compPost (model X.prog X.w) X.A X.xe use Qf (.ref D) s3.heap.objs.size) { s3 with heap := pushCells (s3.heap.push { cls := .type "dict", data := .dict #[] }) scope.names }
  have fB : ∀ b ∈ fp, (upd H2 D (.dT [])) b = none := fun b hb => (f3 b hb).1.1
  generalize eH : upd H2 D (.dT []) = H3 at *
  generalize ec : compEnvC scope cl s3.heap.objs.size X.env = ce at *
  have cL : ce.locals = s3.heap.objs.size := by subst ec; rfl
  generalize e4 : ({ s3 with heap := pushCells (s3.heap.push { cls := .type "dict", data := .dict #[] }) scope.names } : Shared) = s4 at *
  have kp4 : ∀ b o, s3.heap.get? b = some o → s4.heap.get? b = some o := fun b o e => by rw [← e4]; exact pushCells_keeps _ _ _ _ (Heap.get?_push_of_some _ e)
  have I4 : Inv (X.blk s3 H3 scope ce fp) [] (wipe σ (own.map (·.2))) H3 s4 := B0
  have st4 : tn 0 s4.heap := T.keep _ _ _ st3 fun b _ o e => kp4 b o e
  have still : ∀ {σ' : L2.St} {H' : Hp} {s' : Shared}, Inv (X.blk s3 H3 scope ce fp) [] σ' H' s' → (∀ b ∈ fp, H' b = none) → ∀ b ∈ fp, FpOk (X.blk s3 H3 scope ce fp) [] H' b := fun I' hn b hb =>
    ⟨hn b hb, (I'.ok.exf b hb).1, I'.ok.exfs b hb, .inl hb, (I'.ok.exf b hb).2, fun q hq => absurd (show q ∈ ([] : List (Addr × Obj)) from hq) (by simp)⟩
  have loop : codeAny (model X.prog X.w) X.A (.compLoop (.DictComp kx vx [⟨tg, iter, ifs, 0⟩] scope pos) 0 (.ref it) (.ref D) ce) (compPost (model X.prog X.w) X.A X.xe use Qf (.ref D) s3.heap.objs.size) s4 := by
    refine compLoop_anyD (fun n s' => ∃ i H', Inv (X.blk s3 H3 scope ce fp) [] (wipe σ (own.map (·.2))) H' s' ∧ tn i s'.heap ∧ (∀ b ∈ fp, H' b = none) ∧ W i n H') ?_ m0 ⟨0, H3, I4, st4, fB, w0⟩
    rintro n s5 ⟨i, H5, I5, st5, n5, w5⟩
    rcases turn i n H5 w5 with ⟨stop, qq⟩ | ⟨go, Nx, hNx, step⟩
    · refine thnF (T.done (X.blk s3 H3 scope ce fp) rfl rfl rfl hc i [] s5 _ H5 (fun _ _ => False) I5 (still I5 n5) st5 stop) fun r s6 ⟨hr, I6⟩ => ?_
      subst hr
      have I7 : Inv X pins σ H5 s6 := I3.call' (ch := fp) I6.os I6.base I6.hok I6.bare fun b hb => ⟨(f3 b hb).1.2.2.2.1, (f3 b hb).1.2.1, (f3 b hb).1.2.2.2.2.1, (f3 b hb).1.2.2.2.2.2⟩
      have nC : H5 s3.heap.objs.size = none := by
        rw [← cL]
        exact I6.free
      obtain ⟨m, hn, _⟩ := I6.loc
      exact hRR D _ s6 m H5 I7 qq (by rw [← cL]; exact hn) (I3.fpOk (H' := H5) (Nat.le_refl _) nC)
    · refine thnF (T.item (X.blk s3 H3 scope ce fp) rfl rfl rfl hc i [] s5 _ H5 (fun _ _ => False) I5 (still I5 n5) st5 go) fun r s6 ⟨u, hr, h6⟩ => ?_
      subst hr
      refine thnF h6 fun _ s7 ⟨x, H7, I7, r7, y7, st7, n7⟩ => ?_
      refine thnF (pg.run _ s7 _ H7 x u _ (I7.pinned (still I7 n7) (T.obj _ _ st7)) r7 (step x H7 y7)) fun _ s8 ⟨σ8, H8, I8, hw8, q8⟩ => ?_
      refine thnF (pt.run _ s8 σ8 H8 _ I8 q8) fun b s9 ⟨H9, I9, q9⟩ => ?_
      have next : ∀ {s' : Shared} {H' : Hp}, Inv (X.blk s3 H3 scope ce fp) ([] ++ pinsAt fp s7.heap) σ8 H' s' → Nx H' → ∃ m, m < n ∧ ∃ i H', Inv (X.blk s3 H3 scope ce fp) [] (wipe σ (own.map (·.2))) H' s' ∧ tn i s'.heap ∧ (∀ b ∈ fp, H' b = none) ∧ W i m H' := fun {s' H'} I' nx => by
        obtain ⟨m', hm, w'⟩ := hNx H' nx
        have at7 : ∀ b ∈ fp, ∀ o, s7.heap.get? b = some o → s'.heap.get? b = some o ∧ H' b = none := fun b hb o e =>
          have z := I'.pin (b, o) (List.mem_append_right _ (List.mem_append_right _ (mem_pinsAt hb e)))
          ⟨z.1, z.2.1⟩
        refine ⟨m', hm, i + 1, H', (I'.unpinned (pins := [])).weak (by rw [← hw8, wipe_length]) (fun j v e => (wipe_some (hw8 ▸ e)).1), T.keep _ _ _ st7 fun b hb o e => (at7 b hb o e).1, fun b hb => ?_, w'⟩
        obtain ⟨o, e, _⟩ := T.obj _ _ st7 b hb
        exact (at7 b hb o e).2
      cases b with
      | false => exact next I9 q9
      | true =>
        refine thnF (pk.run _ s9 σ8 H9 _ I9 q9) fun z s10 ⟨yk, H10, I10, r10, q10⟩ => ?_
        refine thnF (pe.run _ s10 σ8 H10 _ I10 q10) fun z2 s11 ⟨yv, H11, I11, r11, kvs, k, b, ek, eb, hD11, hz11, nx⟩ => ?_
        subst ek
        exact dset_T (X := X.blk s3 H3 scope ce fp) hu I11 hD11 eb hz11 r10 r11 fun s12 I12 => next I12 nx
  exact codeAny_compStart_dict loop (T.self X.A 0 _ _ _ st4 loop)

theorem ps_setDcT {i : Nat} {y : Str} {py : Pos} {spos : Pos} {kx vx tg iter : Expr} {ifs : List Expr} {scope : Scope} {own : List (Str × Nat)} {pos : Pos} {wi : TI} {g : TG} {tt : TT} {tk tv : TE} (hy : X.N[i]? = some y) (hyl : X.env.scope.names.lookup y = some .local) (hsw : swapsWith (.DictComp kx vx [⟨tg, iter, ifs, 0⟩] scope pos) (some (.Name y py)) spos.line X.env = pure true) (hu : X.A.units + 1 < cLine) (hc : X.calm = true) (hN : X.N.Nodup) (hi : PI X tg iter wi) (ok : BlkOk X.N X.env.scope scope own)
    (hg : ∀ (s : Shared) (H : Hp) (C : Addr) (cl : List (Str × Addr)) (fp : List Addr), PG (X.blk s H scope (compEnvC scope cl C X.env) fp) tg g) (ht : ∀ (s : Shared) (H : Hp) (C : Addr) (cl : List (Str × Addr)) (fp : List Addr), PTs (X.blk s H scope (compEnvC scope cl C X.env) fp) ifs tt)
    (hk : ∀ (s : Shared) (H : Hp) (C : Addr) (cl : List (Str × Addr)) (fp : List Addr), PE (X.blk s H scope (compEnvC scope cl C X.env) fp) kx tk) (he : ∀ (s : Shared) (H : Hp) (C : Addr) (cl : List (Str × Addr)) (fp : List Addr), PE (X.blk s H scope (compEnvC scope cl C X.env) fp) vx tv) (hs : ∀ x, foldedSetIterable iter X.env x = pure x := by intro _; rfl) :
    PS X (.Assign [.Name y py] (.DictComp kx vx [⟨tg, iter, ifs, 0⟩] scope pos) spos) (tAsg (tDcT wi g tt tk tv (own.map (·.2))) (gName i)) := by
  refine ⟨fun pins s σ H D I h => ?_⟩
  rw [exec_Assign_Name_used _ _ _ _ hsw]
  refine wpAny_bind (wpAny_standAt (wpAny_bind ?_))
  show wpAny _ X.A (do let _ ← comprehension (.DictComp kx vx [⟨tg, iter, ifs, 0⟩] scope pos) scope X.env (firstIterPos [⟨tg, iter, ifs, 0⟩] pos) newDict false (eval iter X.env) (some (assign (.Name y py) X.env))) _ _ s
  have h : tDcT wi g tt tk tv (own.map (·.2)) σ H (fun x H1 => gName i x σ H1 D.nx) := h
  refine wpAny_bind (thn (dc_coreT (Qf := fun _ s' => SP X pins D .next s') I hu hc hN hi ok hg ht hk he hs h fun L C s' m H' I' q hn f => ?_) fun _ s' hq => wpAny_pure (wpAny_pure hq))
  show wpAny _ _ (assign (.Name y py) X.env (.ref L)) _ _ _
  refine wpAny_assign_Name (store_ok2 (v := V.ref L) I' hN hy (.inl hyl) rfl (fun s2 I2 ⟨a, sb, ha⟩ => ?_) (.inr hyl))
  obtain ⟨f0, f1, f2, f3, f4, f5⟩ := f
  have haC : C ≠ a := by
    rcases ha with z | z
    · rw [z]; exact f1
    · exact fun e => f4 y a z e.symm
  refine ⟨m, hn.sameBut sb haC, fun h3 sb3 => ?_⟩
  exact ⟨_, H', I2.turned (t' := s2.toks) (fun b o hb e => (sb3.2 b hb).trans e) f0 f1 f3 f4 f5, q⟩
theorem sw_trueD {kx vx : Expr} {gs : List Comprehension} {scope : Scope} {pos py : Pos} {y : Str} {l : Nat} {env : Env} (hk : env.scope.kind = .function) (hy : env.scope.names.lookup y = some .local) (hl : (py.line == pos.line) = true)
    (ha : (scope.names.any fun (n, k) => n == y && (k == .local || k == .cell)) = false) : swapsWith (.DictComp kx vx gs scope pos) (some (.Name y py)) l env = pure true := by
  have ky : env.kindOf y = some .local := hy
  have hb : env.blockKind = .function := by unfold Env.blockKind; rw [hk]; rfl
  unfold swapsWith
  simp only [hb, ky, ha, Expr.pos, hl]
  rfl
end
end Mz

set_option Elab.async false
set_option linter.all false
set_option maxRecDepth 100000
set_option maxHeartbeats 4000000
namespace K11
open PySem PySem.Spec PyProof.Rows L2 Mz
/-- the first row that no state word is like -/
def newRow (kn : List (List Int × Int)) (L : Nat) (S T : List (List Int)) : Option (List Int) := (rowsOf L S).find? fun w => decide (rowOf kn T w ∉ S.map (rowOf kn T))
/-- all that the table wants is known -/
def Full (kn : List (List Int × Int)) (L : Nat) (S T : List (List Int)) : Prop := ∀ w ∈ rowsOf L S, ∀ t ∈ T, ∃ z, toldOf kn (w ++ t) = some z
/-- sizes that do -/
structure Small (L : Nat) (S T : List (List Int)) : Prop where
  l1 : 1 ≤ L
  l4 : L ≤ 4
  s100 : S.length ≤ 100
  ss : ∀ w ∈ S, w.length ≤ 1000
  t100 : T.length ≤ 100
  ts : ∀ t ∈ T, t.length ≤ 1000
def spNewRow (A : Ads) : Sp := fun vs H Q _ => ∃ (p sd td kd : Addr) (L : Nat) (S T : List (List Int)) (kn : List (List Int × Int)), vs = [.ref p, .ref kd] ∧ TabAt A.a_Table H p sd td (L : Int) S T ∧ Small L S T ∧ H kd = some (.dT (kvsO kn)) ∧ kd ≠ sd ∧ kd ≠ td ∧ sd ≠ td ∧ Full kn L S T ∧
  (newRow kn L S T = none → ∀ H', Same H H' → Q .non H') ∧ (∀ w, newRow kn L S T = some w → ∀ (H' : Hp) (q : Addr), Same H H' → IT H' q w → Q (.ref q) H')
theorem putW_in {ws : List (List Int)} {w : List Int} (h : w ∈ ws) : putK (kvsW ws) (keyW w) (.bl true) = kvsW ws := by
  unfold putK
  have a : ((kvsW ws).any fun kv => decide (kv.1 = keyW w)) = true := by
    rw [List.any_eq_true]
    exact ⟨(keyW w, .bl true), List.mem_map.mpr ⟨w, h, rfl⟩, decide_eq_true rfl⟩
  rw [if_pos a]
  unfold kvsW
  rw [List.map_map]
  refine List.map_congr_left fun x _ => ?_
  show (if keyW x = keyW w then (keyW x, V.bl true) else (keyW x, V.bl true)) = _
  split <;> rfl
theorem sF_no (L : Int) (sd td : Addr) {m : Str} (h1 : (m == ("_letters" : Str)) = false) (h2 : (m == ("_states" : Str)) = false) (h3 : (m == ("_tails" : Str)) = false) : (sF L sd td).lookup m = none := (lk_past h1).trans ((lk_past h2).trans ((lk_past h3).trans rfl))
section
variable {P : Program} {w : World} {K : PySem.W.Frag} {mg : Str → Option Value} {base : Heap} {A : Ads}
theorem ok_newrow (T : Txt K mg A) : FnOk P w K mg base CX0 2 A.a_Table_new_row A.d_Table_new_row ["self", "known"] (spNewRow A) := by
  have G_Table_outputs : FnOk P w K mg base CX0 1 A.a_Table_outputs A.d_Table_outputs ["self", "row", "known"] (spOutputs A) := ok_outputs T
  have G_Table_rows : FnOk P w K mg base CX0 1 A.a_Table_rows A.d_Table_rows ["self"] (spRows A) := ok_rows T
  refine T.F_Table_new_row.ok sc_Table_new_row (fun vs H Q E h => ?_) (fun cdv Ar outer s H vs Q E hr h => ?_)
  · obtain ⟨_, _, _, _, _, _, _, _, rfl, _⟩ := h
    rfl
  · have hr_Table_outputs : Room 1 _ := hr
    have hr_Table_rows : Room 1 _ := hr
    refine ⟨_, (pss_cons (ps_lock (ps_setDcT (i := 2) (own := [("word", 4)]) (g := (gName 4)) (tt := tYes) rfl rfl (sw_trueD rfl rfl rfl (by decide +kernel)) (hu_of hr) rfl sc_Table_new_row.nd (pi_keys (pe_fld (pv 0) rfl)) (blkOk_by (N := ["self", "known", "seen", "row", "word"]) (sc := defScope s_Table_new_row) (by decide +kernel)) (fun _ _ _ _ _ => (pg_name (i := 4) sc_Table_new_row.nd rfl (Or.inl rfl))) (fun _ _ _ _ _ => pts_nil) (fun _ _ _ _ _ => (pe_meth (pv 0) T.cl_Table T.m_Table_outputs G_Table_outputs hr_Table_outputs T.b_Table_outputs .nil pass0 (pa_cons (pv 4) (pa_cons (pv 1) pa_nil)))) (fun _ _ _ _ _ => pe_bl)))
      (pss_cons (ps_for PassesOwn.never rfl (pi_list (pe_meth0 (pv 0) T.cl_Table T.m_Table_rows G_Table_rows hr_Table_rows T.b_Table_rows .nil pass0)) (pg_name (i := 3) sc_Table_new_row.nd rfl (Or.inl rfl))
        (pss_one (ps_if (pt_cmp (pc_dnotin (hu_of hr) (pe_meth (pv 0) T.cl_Table T.m_Table_outputs G_Table_outputs hr_Table_outputs T.b_Table_outputs .nil pass0 (pa_cons (pv 3) (pa_cons (pv 1) pa_nil))) (pv 2))) (pss_one (ps_ret (pv 3))) pss_nil)))
      (pss_one (ps_ret pe_non)))), ?_⟩
    obtain ⟨p, sd, td, kd, L, S, Tl, kn, rfl, hs, sm, hk, ks, kt, st, full, f0, f1⟩ := h
    obtain ⟨⟨dx, ob⟩, di, dt⟩ := id hs
    refine ⟨sd, _, di, trivial, fun od => ?_⟩
    have pd : p ≠ sd := fun z => by
      rw [z, di] at ob
      cases ob
    have obF : (upd H sd (.frz od (.dT (kvsI S)))) p = some (.ins A.a_Table dx (sF (L : Int) sd td)) := by rw [upd_ne pd]; exact ob
    have dtF : (upd H sd (.frz od (.dT (kvsI S)))) td = some (.dT (kvsW Tl)) := by rw [upd_ne (Ne.symm st)]; exact dt
    have hkF : (upd H sd (.frz od (.dT (kvsI S)))) kd = some (.dT (kvsO kn)) := by rw [upd_ne ks]; exact hk
    have lT := sm.t100
    have inR : ∀ w ∈ S, w ∈ rowsOf L S := fun w hw => List.mem_append_left _ hw
    refine ⟨_, rfl, p, _, dx, _, _, rfl, obF, T.cl_Table, T.nA_Table_states, sF_states _ _ _, sd, od, rfl, .inr ⟨_, upd_same, fun D hD => ?_⟩⟩
    refine it_any walk_keysT (fun i H' => ∃ R : List (List Int), H' D = some (.dT (kvsW R)) ∧ R.length ≤ i ∧ (∀ r, r ∈ R ↔ ∃ w ∈ S.take i, rowOf kn Tl w = r) ∧ Same (upd H sd (.frz od (.dT (kvsI S)))) H') ⟨[], upd_same, Nat.le_refl _, fun r => by simp, same_upd (Same.refl _) hD⟩ (fun i H' _ ⟨_, _, _, _, z⟩ => z _ _ upd_same) ?_ ?_
    · rintro i x H3 H3x hi ⟨R, e3, lR, mR, s3⟩ ⟨rfl, k, v, q, hk2, rfl, hq⟩
      have il : i < S.length := by rw [kvsI_len] at hi; exact hi
      have ew := List.getElem?_eq_getElem il
      generalize S[i] = w at ew
      rw [kvsI_at ew] at hk2
      cases hk2
      rw [keyW_V] at hq
      have wS := List.mem_of_getElem? ew
      refine ⟨rfl, ?_⟩
      refine ⟨_, rfl, p, dx, _, rfl, s3 _ _ obF, sF_no _ _ _ (by decide +kernel) (by decide +kernel) (by decide +kernel), _, rfl, _, rfl, ?_⟩
      refine ⟨p, sd, td, kd, q, (L : Int), Tl, kn, w, rfl, ⟨dx, s3 _ _ obF⟩, s3 _ _ dtF, hq, s3 _ _ hkF, kt, full w (inR w wS), by omega, by have := sm.ss w wS; omega, fun t ht => by have := sm.ts t ht; omega, fun H4 r s4 er => ?_⟩
      have er2 : H4 r = some (.tup ((keyW (rowOf kn Tl w)).map kV)) := by rw [keyW_V]; exact er
      have e4 := s4 _ _ e3
      refine ⟨_, keyW (rowOf kn Tl w), r, rfl, er2, e4, ?_, ?_⟩
      · rw [kvsW_len]
        have := sm.s100
        exact Nat.lt_of_le_of_lt (by omega : R.length ≤ 100) (by decide)
      have mem : ∀ (R' : List (List Int)), (∀ r, r ∈ R' ↔ r ∈ R ∨ r = rowOf kn Tl w) → ∀ r, r ∈ R' ↔ ∃ u ∈ S.take (i + 1), rowOf kn Tl u = r := fun R' h r => by
        rw [h, mR, take_more ew]
        simp only [List.mem_append, List.mem_singleton]
        constructor
        · rintro (⟨u, hu, rfl⟩ | rfl)
          · exact ⟨u, .inl hu, rfl⟩
          · exact ⟨w, .inr rfl, rfl⟩
        · rintro ⟨u, hu | rfl, rfl⟩
          · exact .inl ⟨u, hu, rfl⟩
          · exact .inr rfl
      by_cases c : rowOf kn Tl w ∈ R
      · exact ⟨R, by rw [upd_same, putW_in c], by omega, mem R fun r => ⟨.inl, fun z => z.elim id fun z => by rw [z]; exact c⟩, same_set (s3.trans s4) hD⟩
      · exact ⟨R ++ [rowOf kn Tl w], by rw [upd_same, putW c], by rw [List.length_append]; exact Nat.succ_le_succ lR, mem _ fun r => by simp, same_set (s3.trans s4) hD⟩
    rintro H3 ⟨R, e3, lR, mR, s3⟩
    rw [kvsI_len, List.take_length] at mR
    refine ⟨s3 _ _ upd_same, ?_⟩
    have Dd : D ≠ sd := fun z => by
      rw [z, upd_same] at hD
      cases hD
    have eD : (upd H3 sd (.dT (kvsI S))) D = some (.dT (kvsW R)) := (upd_ne Dd).trans e3
    have sU := unlock_same di s3
    have tU := hs.same sU
    have kU := sU _ _ hk
    generalize upd H3 sd (.dT (kvsI S)) = H4 at *
    clear e3 s3 hD obF dtF hkF
    have ob4 := sU _ _ ob
    refine ⟨_, rfl, p, dx, _, rfl, ob4, sF_no _ _ _ (by decide +kernel) (by decide +kernel) (by decide +kernel), ?_⟩
    refine ⟨p, sd, td, L, S, Tl, rfl, tU, sm.l1, sm.l4, sm.s100, sm.ss, fun H5 q ts s5 eq tl => ?_⟩
    refine ⟨q, rfl, ⟨_, SqL.of eq⟩, for_list (K := K) (a := q) (xs := ts.map V.ref) (fun i σ H' => ∃ v3 : Option V, σ = [some (.ref p), some (.ref kd), some (.ref D), v3, none] ∧ Same H5 H' ∧ ∀ w ∈ (rowsOf L S).take i, rowOf kn Tl w ∈ S.map (rowOf kn Tl))
      ⟨_, rfl, Same.refl _, fun w h => by simp at h⟩ (fun i σ H' _ ⟨_, _, z, _⟩ => SqL.of (z _ _ eq)) ?_ ?_⟩
    · rintro i y σ H6 hy ⟨v3, rfl, s6, al⟩
      obtain ⟨t, ht, rfl⟩ := ofV hy
      have il : i < (rowsOf L S).length := by rw [← tl.1]; exact (List.getElem?_eq_some_iff.mp ht).1
      have ew := List.getElem?_eq_getElem il
      have et := s6 _ _ (tl.2 i t _ ht ew)
      generalize (rowsOf L S)[i] = w at *
      have wR := List.mem_of_getElem? ew
      have s46 := s5.trans s6
      have wl : w.length ≤ 1001 := by
        rcases List.mem_append.mp wR with z | z
        · have := sm.ss w z; omega
        · obtain ⟨u, hu, hw⟩ := List.mem_flatMap.mp (List.mem_filter.mp z).1
          obtain ⟨b, _, rfl⟩ := List.mem_map.mp hw
          have := sm.ss u hu
          rw [List.length_append]
          show u.length + 1 ≤ 1001
          omega
      refine ⟨_, rfl, p, dx, _, rfl, s46 _ _ ob4, sF_no _ _ _ (by decide +kernel) (by decide +kernel) (by decide +kernel), _, rfl, _, rfl, ?_⟩
      refine ⟨p, sd, td, kd, t, (L : Int), Tl, kn, w, rfl, ⟨dx, s46 _ _ ob4⟩, s46 _ _ tU.tl, et, s46 _ _ kU, kt, full w wR, by omega, by omega, fun t ht => by have := sm.ts t ht; omega, fun H7 r s7 er => ?_⟩
      have er2 : H7 r = some (.tup ((keyW (rowOf kn Tl w)).map kV)) := by rw [keyW_V]; exact er
      have s47 := s46.trans s7
      refine ⟨_, rfl, D, _, rfl, DGet.t (k := keyW (rowOf kn Tl w)) (s47 _ _ eD) er2, ?_⟩
      refine ⟨_, rfl, ?_⟩
      rw [valW]
      by_cases c : rowOf kn Tl w ∈ R
      · refine ifDF (by rw [if_pos c]; rfl) ⟨_, rfl, s6.trans s7, fun u hu => ?_⟩
        rw [take_more ew] at hu
        rcases List.mem_append.mp hu with z | z
        · exact al u z
        · rw [List.mem_singleton.mp z]
          obtain ⟨v, hv, e⟩ := (mR _).mp c
          exact List.mem_map.mpr ⟨v, hv, e⟩
      · refine ifDT (by rw [if_neg c]; rfl) ?_
        have nS : rowOf kn Tl w ∉ S.map (rowOf kn Tl) := fun z => by
          obtain ⟨v, hv, e⟩ := List.mem_map.mp z
          exact c ((mR _).mpr ⟨v, hv, e⟩)
        have found : newRow kn L S Tl = some w := by
          unfold newRow
          rw [List.find?_eq_some_iff_append]
          refine ⟨decide_eq_true nS, (rowsOf L S).take i, (rowsOf L S).drop (i + 1), ?_, fun u hu => ?_⟩
          · have h1 := List.take_append_drop i (rowsOf L S)
            have h2 : (rowsOf L S).drop i = w :: (rowsOf L S).drop (i + 1) := by
              rw [List.drop_eq_getElem_cons il]
              congr 1
              exact Option.some.inj ((List.getElem?_eq_getElem il).symm.trans ew)
            rw [← h2, h1]
          · rw [decide_eq_false (fun z => z (al u hu))]
            rfl
        exact ⟨_, rfl, f1 w found H7 t (sU.trans s47) (s7 _ _ et)⟩
    rintro σ H6 ⟨v3, rfl, s6, al⟩
    rw [List.length_map, tl.1, List.take_length] at al
    refine f0 ?_ H6 (sU.trans (s5.trans s6))
    unfold newRow
    rw [List.find?_eq_none]
    intro w hw
    rw [decide_eq_false (fun z => z (al w hw))]
    exact Bool.false_ne_true
end
end K11

set_option Elab.async false
set_option linter.all false
set_option maxRecDepth 100000
set_option maxHeartbeats 4000000
namespace K11
open PySem PySem.Spec PyProof.Rows L2 Mz
/-- a table made longer: no state word more, or one -/
def spExtend (A : Ads) : Sp := fun vs H Q _ => ∃ (p sd td kd : Addr) (L : Nat) (S T : List (List Int)) (kn : List (List Int × Int)), vs = [.ref p, .ref kd] ∧ TabAt A.a_Table H p sd td (L : Int) S T ∧ Small L S T ∧ H kd = some (.dT (kvsO kn)) ∧ kd ≠ sd ∧ kd ≠ td ∧ sd ≠ td ∧ Full kn L S T ∧ (∀ w, newRow kn L S T = some w → w ∉ S) ∧
  (newRow kn L S T = none → ∀ H', Same H H' → Q (.bl false) H') ∧ (∀ w, newRow kn L S T = some w → ∀ (H' : Hp), TabAt A.a_Table H' p sd td (L : Int) (S ++ [w]) T → But H H' sd → Q (.bl true) H')
theorem kvsI_put {S : List (List Int)} {w : List Int} (h : w ∉ S) : putK (kvsI S) (keyW w) (.int (S.length : Int)) = kvsI (S ++ [w]) := by
  rw [putK_new _ (by
    have z := valI (S := S) (w := w)
    rw [decide_eq_false h] at z
    cases e : valV (kvsI S) (keyW w) with
    | none => rfl
    | some v => rw [e] at z; cases z)]
  unfold kvsI
  rw [List.zipIdx_append, List.map_append, Nat.zero_add]
  rfl
section
variable {P : Program} {w : World} {K : PySem.W.Frag} {mg : Str → Option Value} {base : Heap} {A : Ads}
theorem ok_extend (T : Txt K mg A) : FnOk P w K mg base CX0 3 A.a_Table_extend A.d_Table_extend ["self", "known"] (spExtend A) := by
  have G_Table_new_row : FnOk P w K mg base CX0 2 A.a_Table_new_row A.d_Table_new_row ["self", "known"] (spNewRow A) := ok_newrow T
  refine T.F_Table_extend.ok sc_Table_extend (fun vs H Q E h => ?_) (fun cdv Ar outer s H vs Q E hr h => ?_)
  · obtain ⟨_, _, _, _, _, _, _, _, rfl, _⟩ := h
    rfl
  · have hr_Table_new_row : Room 2 _ := hr
    refine ⟨_, (pss_cons (ps_set (i := 2) sc_Table_extend.nd rfl (Or.inl rfl) (pe_meth (pv 0) T.cl_Table T.m_Table_new_row G_Table_new_row hr_Table_new_row T.b_Table_new_row .nil pass0 (pa_cons (pv 1) pa_nil)))
      (pss_cons (ps_if (pt_cmpR op_isN (pv 2) pe_non (nomark _)) (pss_one (ps_ret pe_bl)) pss_nil)
      (pss_cons (ps_asg (pe_callB call_len_dT (by rfl) T.n_len PySem.boot_len (pa_cons (pe_fld (pv 0) rfl) pa_nil)) (pg_sub (pe_fld (pv 0) rfl) (pv 2) (set_dict (hu_of hr))))
      (pss_one (ps_ret pe_bl))))), ?_⟩
    obtain ⟨p, sd, td, kd, L, S, Tl, kn, rfl, hs, sm, hk, ks, kt, st, full, nw, f0, f1⟩ := h
    obtain ⟨⟨dx, ob⟩, di, dt⟩ := id hs
    refine ⟨_, rfl, p, dx, _, rfl, ob, sF_no _ _ _ (by decide +kernel) (by decide +kernel) (by decide +kernel), _, rfl, ?_⟩
    refine ⟨p, sd, td, kd, L, S, Tl, kn, rfl, hs, sm, hk, ks, kt, st, full, fun e0 H1 s1 => ?_, fun w e1 H1 q s1 hq => ?_⟩
    · refine ⟨_, rfl, ?_⟩
      refine ⟨rfl, _, rfl, ?_⟩
      refine ifDT (decide_eq_true rfl) ?_
      exact f0 e0 H1 s1
    · refine ⟨_, rfl, ?_⟩
      refine ⟨rfl, _, rfl, ?_⟩
      refine ifDF (decide_eq_false (fun z => by cases z)) ?_
      obtain ⟨hS, iS, tS⟩ := hs.same s1
      have hq2 : H1 q = some (.tup ((keyW w).map kV)) := by rw [keyW_V]; exact hq
      have lS := sm.s100
      have ps : p ≠ sd := fun z => by
        rw [z, di] at ob
        cases ob
      refine ⟨_, rfl, p, _, dx, _, _, rfl, s1 _ _ ob, T.cl_Table, T.nA_Table_states, sF_states _ _ _, ?_⟩
      refine ⟨sd, _, rfl, iS, ?_⟩
      refine ⟨_, rfl, p, _, dx, _, _, rfl, s1 _ _ ob, T.cl_Table, T.nA_Table_states, sF_states _ _ _, ?_⟩
      refine ⟨_, rfl, ?_⟩
      refine ⟨sd, _, rfl, DPut.t iS hq2 (by rw [kvsI_len]; exact Nat.lt_of_le_of_lt lS (by decide)), ?_⟩
      rw [kvsI_len, kvsI_put (nw w e1)]
      refine f1 w e1 _ ⟨⟨dx, ?_⟩, upd_same, ?_⟩ (fun b o e nb => ?_)
      · rw [upd_ne ps]
        exact s1 _ _ ob
      · rw [upd_ne (Ne.symm st)]
        exact tS
      · rw [upd_ne nb]
        exact s1 _ _ e
end
end K11

set_option Elab.async false
set_option linter.all false
set_option maxRecDepth 100000
set_option maxHeartbeats 4000000
namespace K11
open PySem PySem.Spec PyProof.Rows L2 Mz L2N
def spAddColumn (A : Ads) : Sp := fun vs H Q E => ∃ (p sd td q : Addr) (L : Int) (S T : List (List Int)) (w : List Int), vs = [.ref p, .ref q] ∧ TabAt A.a_Table H p sd td L S T ∧ H q = some (.lst (w.map V.int)) ∧ w.length ≤ 1000 ∧ T.length ≤ 100 ∧ sd ≠ td ∧ p ≠ td ∧
  (w ∈ T → ∀ H' : Hp, Same H H' → E (.ref A.a_Alike) none H') ∧ (w ∉ T → ∀ (H' : Hp), TabAt A.a_Table H' p sd td L S (T ++ [w]) → But H H' td → Q .non H')
section
variable {P : Program} {w : World} {K : PySem.W.Frag} {mg : Str → Option Value} {base : Heap} {A : Ads}
theorem ok_add_column (T : Txt K mg A) : FnOk P w K mg base (L2N.CX P w) 1 A.a_Table_add_column A.d_Table_add_column ["self", "word"] (spAddColumn A) := by
  refine okN T.F_Table_add_column sc_Table_add_column (fun vs H Q E h => ?_) (fun cdv Ar outer s H vs Q E hr h => ?_)
  · obtain ⟨_, _, _, _, _, _, _, _, rfl, _⟩ := h
    rfl
  · refine ⟨_, (pss_cons (ps_if (pt_cmp (pc_din (hu_of hr) (pe_callTy call_tuple_of (by rfl) T.n_tuple (by decide +kernel) (pa_cons (pv 1) pa_nil)) (pe_fld (pv 0) rfl))) (pss_one (L2N.ps_raise rfl (L2N.takes_of rfl rfl rfl rfl) (L2N.pmk_own PySem.F.excBase_ValueError T.x_Alike T.g_Alike T.k_Alike (raises_own T.sb_Alike T.ty_Alike) (by rfl)))) pss_nil)
      (pss_one (ps_asg pe_bl (pg_sub (pe_fld (pv 0) rfl) (pe_callTy call_tuple_of (by rfl) T.n_tuple (by decide +kernel) (pa_cons (pv 1) pa_nil)) (set_dict (hu_of hr)))))), ?_⟩
    obtain ⟨p, sd, td, q, L, S, Tl, w, rfl, hs, hq, lw, lT, st, pt, bad, fin⟩ := h
    obtain ⟨⟨dx, ob⟩, di, dt⟩ := id hs
    refine ⟨_, rfl, ?_⟩
    refine ⟨q, _, rfl, .inl ⟨SqL.of hq, fun t ht => ?_⟩⟩
    have s1 : Same H (upd H t (.tup (w.map V.int))) := same_upd (Same.refl _) ht
    have et : (upd H t (.tup (w.map V.int))) t = some (.tup ((keyW w).map kV)) := by rw [keyW_V]; exact upd_same
    generalize upd H t (.tup (w.map V.int)) = H1 at *
    refine ⟨_, rfl, p, _, dx, _, _, rfl, s1 _ _ ob, T.cl_Table, T.nA_Table_tails, sF_tails _ _ _, ?_⟩
    refine ⟨td, _, rfl, DGet.t (s1 _ _ dt) et, ?_⟩
    refine ⟨_, rfl, ?_⟩
    rw [valW]
    by_cases nw : w ∈ Tl
    · refine ifDT (by rw [if_pos nw]; rfl) ?_
      exact bad nw H1 s1
    refine ifDF (by rw [if_neg nw]; rfl) ?_
    refine ⟨_, rfl, p, _, dx, _, _, rfl, s1 _ _ ob, T.cl_Table, T.nA_Table_tails, sF_tails _ _ _, ?_⟩
    refine ⟨_, rfl, ?_⟩
    refine ⟨q, _, rfl, .inl ⟨SqL.of (s1 _ _ hq), fun t2 ht2 => ?_⟩⟩
    have s2 := same_upd (o := .tup (w.map V.int)) s1 ht2
    have et2 : (upd H1 t2 (.tup (w.map V.int))) t2 = some (.tup ((keyW w).map kV)) := by rw [keyW_V]; exact upd_same
    generalize upd H1 t2 (.tup (w.map V.int)) = H2 at *
    refine ⟨td, _, rfl, DPut.t (s2 _ _ dt) et2 (by rw [kvsW_len]; exact Nat.lt_of_le_of_lt lT (by decide)), ?_⟩
    rw [putW nw]
    refine fin nw _ ⟨⟨dx, ?_⟩, ?_, upd_same⟩ (fun b o e nb => ?_)
    · rw [upd_ne pt]
      exact s2 _ _ ob
    · rw [upd_ne st]
      exact s2 _ _ di
    · rw [upd_ne nb]
      exact s2 _ _ e
end
end K11

set_option Elab.async false
set_option linter.all false
set_option maxRecDepth 100000
set_option maxHeartbeats 4000000
namespace K11
open PySem PySem.Spec PyProof.Rows L2 Mz
/-- all words of a table, row by row -/
def wordsOf (L : Nat) (S T : List (List Int)) : List (List Int) := (rowsOf L S).flatMap fun r => T.map fun t => r ++ t
/-- the first of them that is not known -/
def dueOf (kn : List (List Int × Int)) (L : Nat) (S T : List (List Int)) : Option (List Int) := (wordsOf L S T).find? fun w => decide (toldOf kn w = none)
theorem find_flat {α β : Type} {f : α → List β} {p : β → Bool} {xs : List α} {i : Nat} {x : α} (h : xs[i]? = some x) (hb : ∀ y ∈ xs.take i, ∀ z ∈ f y, p z = false) {j : Nat} {z : β} (hz : (f x)[j]? = some z) (hc : ∀ y ∈ (f x).take j, p y = false) (pz : p z = true) : (xs.flatMap f).find? p = some z := by
  have e : xs = xs.take i ++ x :: xs.drop (i + 1) := by
    obtain ⟨hi, e⟩ := List.getElem?_eq_some_iff.mp h
    rw [← e, ← List.drop_eq_getElem_cons hi, List.take_append_drop]
  have e2 : f x = (f x).take j ++ z :: (f x).drop (j + 1) := by
    obtain ⟨hi, e⟩ := List.getElem?_eq_some_iff.mp hz
    rw [← e, ← List.drop_eq_getElem_cons hi, List.take_append_drop]
  rw [e, List.flatMap_append, List.flatMap_cons, List.find?_append]
  have n1 : ((xs.take i).flatMap f).find? p = none := by
    rw [List.find?_eq_none]
    intro a ha
    obtain ⟨y, hy, hz⟩ := List.mem_flatMap.mp ha
    rw [hb y hy a hz]
    exact Bool.false_ne_true
  rw [n1, e2]
  show ((((f x).take j ++ z :: (f x).drop (j + 1)) ++ _).find? p) = some z
  rw [List.find?_append, List.find?_append]
  have n2 : ((f x).take j).find? p = none := by
    rw [List.find?_eq_none]
    intro a ha
    rw [hc a ha]
    exact Bool.false_ne_true
  rw [n2, List.find?_cons, pz]
  rfl
def spWanted (A : Ads) : Sp := fun vs H Q _ => ∃ (p sd td kd : Addr) (L : Nat) (S T : List (List Int)) (kn : List (List Int × Int)), vs = [.ref p, .ref kd] ∧ TabAt A.a_Table H p sd td (L : Int) S T ∧ Small L S T ∧ H kd = some (.dT (kvsO kn)) ∧ kd ≠ sd ∧ kd ≠ td ∧ sd ≠ td ∧
  (dueOf kn L S T = none → ∀ H', Same H H' → Q .non H') ∧ (∀ w, dueOf kn L S T = some w → ∀ (H' : Hp) (q : Addr), Same H H' → H q = none → H' q = some (.lst (w.map V.int)) → Q (.ref q) H')
section
variable {P : Program} {w : World} {K : PySem.W.Frag} {mg : Str → Option Value} {base : Heap} {A : Ads}
theorem ok_wanted (T : Txt K mg A) : FnOk P w K mg base CX0 2 A.a_Table_wanted A.d_Table_wanted ["self", "known"] (spWanted A) := by
  have G_Table_rows : FnOk P w K mg base CX0 1 A.a_Table_rows A.d_Table_rows ["self"] (spRows A) := ok_rows T
  refine T.F_Table_wanted.ok sc_Table_wanted (fun vs H Q E h => ?_) (fun cdv Ar outer s H vs Q E hr h => ?_)
  · obtain ⟨_, _, _, _, _, _, _, _, rfl, _⟩ := h
    rfl
  · have hr_Table_rows : Room 1 _ := hr
    refine ⟨_, (pss_cons (ps_for PassesOwn.never rfl (pi_list (pe_meth0 (pv 0) T.cl_Table T.m_Table_rows G_Table_rows hr_Table_rows T.b_Table_rows .nil pass0)) (pg_name (i := 2) sc_Table_wanted.nd rfl (Or.inl rfl))
        (pss_one (ps_lock (ps_for PassesOwn.never rfl (pi_keys (pe_fld (pv 0) rfl)) (pg_name (i := 3) sc_Table_wanted.nd rfl (Or.inl rfl))
            (pss_one (ps_if (pt_cmp (pc_dnotin (hu_of hr) (pe_op (r := rCatA K) op_catA (pv 2) (pv 3)) (pv 1))) (pss_one (ps_ret (pe_callTy call_list_of (by rfl) T.n_list (by decide +kernel) (pa_cons (pe_op (r := rCatA K) op_catA (pv 2) (pv 3)) pa_nil)))) pss_nil))))))
      (pss_one (ps_ret pe_non))), ?_⟩
    obtain ⟨p, sd, td, kd, L, S, Tl, kn, rfl, hs, sm, hk, ks, kt, st, f0, f1⟩ := h
    obtain ⟨⟨dx, ob⟩, di, dt⟩ := id hs
    have pt : p ≠ td := fun z => by
      rw [z, dt] at ob
      cases ob
    refine ⟨_, rfl, p, dx, _, rfl, ob, sF_no _ _ _ (by decide +kernel) (by decide +kernel) (by decide +kernel), ?_⟩
    refine ⟨p, sd, td, L, S, Tl, rfl, hs, sm.l1, sm.l4, sm.s100, sm.ss, fun H1 q ts s1 eq tl => ?_⟩
    refine ⟨q, rfl, ⟨_, SqL.of eq⟩, for_list (K := K) (a := q) (xs := ts.map V.ref) (fun i σ H' => ∃ v2 v3 : Option V, σ = [some (.ref p), some (.ref kd), v2, v3] ∧ Same H1 H' ∧ ∀ r ∈ (rowsOf L S).take i, ∀ t ∈ Tl, toldOf kn (r ++ t) ≠ none)
      ⟨_, _, rfl, Same.refl _, fun w h => by simp at h⟩ (fun i σ H' _ ⟨_, _, _, z, _⟩ => SqL.of (z _ _ eq)) ?_ ?_⟩
    · rintro i y σ H2 hy ⟨v2, v3, rfl, s2, al⟩
      obtain ⟨t, ht, rfl⟩ := ofV hy
      have il : i < (rowsOf L S).length := by rw [← tl.1]; exact (List.getElem?_eq_some_iff.mp ht).1
      have ew := List.getElem?_eq_getElem il
      have et := s2 _ _ (tl.2 i t _ ht ew)
      generalize hr0 : (rowsOf L S)[i] = r at *
      have wR := List.mem_of_getElem? ew
      have s02 := s1.trans s2
      have wl : r.length ≤ 1001 := by
        rcases List.mem_append.mp wR with z | z
        · have := sm.ss r z; omega
        · obtain ⟨u, hu, hw⟩ := List.mem_flatMap.mp (List.mem_filter.mp z).1
          obtain ⟨b, _, rfl⟩ := List.mem_map.mp hw
          have := sm.ss u hu
          rw [List.length_append]
          show u.length + 1 ≤ 1001
          omega
      have dt2 := s02 _ _ dt
      have et : H2 t = some (.tup (r.map V.int)) := et
      refine ⟨td, _, dt2, trivial, fun od => ?_⟩
      have td' : t ≠ td := fun z => by
        rw [z, dt2] at et
        cases et
      have obF : (upd H2 td (.frz od (.dT (kvsW Tl)))) p = some (.ins A.a_Table dx (sF (L : Int) sd td)) := by rw [upd_ne pt]; exact s02 _ _ ob
      have hkF : (upd H2 td (.frz od (.dT (kvsW Tl)))) kd = some (.dT (kvsO kn)) := by rw [upd_ne kt]; exact s02 _ _ hk
      have etF : (upd H2 td (.frz od (.dT (kvsW Tl)))) t = some (.tup (r.map V.int)) := by rw [upd_ne td']; exact et
      refine ⟨_, rfl, p, _, dx, _, _, rfl, obF, T.cl_Table, T.nA_Table_tails, sF_tails _ _ _, td, od, rfl, .inr ⟨_, upd_same, ?_⟩⟩
      refine for_it walk_keysT (fun j σ H' => ∃ v3 : Option V, σ = [some (.ref p), some (.ref kd), some (.ref t), v3] ∧ Same (upd H2 td (.frz od (.dT (kvsW Tl)))) H' ∧ ∀ u ∈ Tl.take j, toldOf kn (r ++ u) ≠ none) ⟨_, rfl, Same.refl _, fun u hu => by simp at hu⟩ (fun j σ H' _ ⟨_, _, z, _⟩ => z _ _ upd_same) ?_ ?_
      · rintro j x σ H3 H3x hj ⟨v3, rfl, s3, al3⟩ ⟨rfl, k, v, q2, hk2, rfl, hq⟩
        have jl : j < Tl.length := by rw [kvsW_len] at hj; exact hj
        have eu := List.getElem?_eq_getElem jl
        generalize Tl[j] = u at eu
        have hk3 : (kvsW Tl)[j]? = some (keyW u, .bl true) := by
          unfold kvsW
          rw [List.getElem?_map, eu]
          rfl
        rw [hk3] at hk2
        cases hk2
        rw [keyW_V] at hq
        have ul := sm.ts u (List.mem_of_getElem? eu)
        have room : (r.map V.int).length + (u.map V.int).length ≤ sizeLine := by
          rw [List.length_map, List.length_map]
          exact Nat.le_of_lt (Nat.lt_of_le_of_lt (by omega : r.length + u.length ≤ 4000) (by decide))
        refine ⟨_, rfl, _, rfl, ?_⟩
        refine catA_any (s3 _ _ etF) hq room fun H6 c s6 ec => ?_
        have ec2 : H6 c = some (.tup ((keyW (r ++ u)).map kV)) := by rw [keyW_V, List.map_append]; exact ec
        have s36 := s3.trans s6
        refine ⟨_, rfl, kd, _, rfl, DGet.t (k := keyW (r ++ u)) (s36 _ _ hkF) ec2, ?_⟩
        refine ⟨_, rfl, ?_⟩
        rw [valO]
        cases hv : toldOf kn (r ++ u) with
        | some z =>
          refine ifDF rfl ⟨_, rfl, s36, fun a ha => ?_⟩
          rw [take_more eu] at ha
          rcases List.mem_append.mp ha with z | z
          · exact al3 a z
          · rw [List.mem_singleton.mp z, hv]
            exact fun z => nomatch z
        | none =>
          refine ifDT rfl ?_
          refine ⟨_, rfl, _, rfl, ?_⟩
          refine catA_any (s36 _ _ etF) (s6 _ _ hq) room fun H7 c7 s7 ec7 => ?_
          have s37 := s36.trans s7
          refine ⟨c7, _, rfl, .inr (SqT.of ec7), fun l hl => ?_⟩
          refine ⟨(upd_ne fun z => by rw [← z, s37 _ _ upd_same] at hl; cases hl).trans (s37 _ _ upd_same), ?_⟩
          have ltd : l ≠ td := fun z => by rw [z, s37 _ _ upd_same] at hl; cases hl
          have found : dueOf kn L S Tl = some (r ++ u) := by
            refine find_flat ew (fun y hy z hz => ?_) (j := j) (z := r ++ u) (by rw [List.getElem?_map, eu]; rfl) (fun y hy => ?_) (decide_eq_true hv)
            · obtain ⟨v, hv2, rfl⟩ := List.mem_map.mp hz
              exact decide_eq_false (al y hy v hv2)
            · rw [← List.map_take] at hy
              obtain ⟨v, hv2, rfl⟩ := List.mem_map.mp hy
              exact decide_eq_false (al3 v hv2)
          refine f1 _ found _ l ?_ ?_ ?_
          · refine s02.trans ?_
            exact unlock_same dt2 (same_upd s37 hl)
          · exact s02.free (lock_free dt2 (s37.free hl))
          · rw [upd_ne ltd, upd_same, List.map_append]
      · rintro σ H3 ⟨v3, rfl, s3, al3⟩
        rw [kvsW_len, List.take_length] at al3
        refine ⟨s3 _ _ upd_same, ?_⟩
        refine ⟨_, _, rfl, s2.trans (unlock_same dt2 s3), fun a ha => ?_⟩
        rw [take_more ew] at ha
        rcases List.mem_append.mp ha with z | z
        · exact al a z
        · rw [List.mem_singleton.mp z]
          exact al3
    · rintro σ H2 ⟨v2, v3, rfl, s2, al⟩
      rw [List.length_map, tl.1, List.take_length] at al
      refine f0 ?_ H2 (s1.trans s2)
      unfold dueOf wordsOf
      rw [List.find?_eq_none]
      intro a ha
      obtain ⟨r, hr1, hm⟩ := List.mem_flatMap.mp ha
      obtain ⟨u, hu, rfl⟩ := List.mem_map.mp hm
      rw [decide_eq_false (al r hr1 u hu)]
      exact Bool.false_ne_true
end
end K11

set_option Elab.async false
set_option linter.all false
set_option maxRecDepth 100000
set_option maxHeartbeats 4000000
/-! d.setdefault(key, x), the keys tuples -/
namespace Mz
open PySem PySem.Spec PyProof.Rows L2
def tSetdT (td ty tx : TE) : TE := fun σ H Q => td σ H fun x H1 => ∃ a kvs0, x = .ref a ∧ H1 a = some (.dT kvs0) ∧ ty σ H1 fun y H2 => tx σ H2 fun z H3 => ∃ b kvs k, y = .ref b ∧ H3 a = some (.dT kvs) ∧ H3 b = some (.tup (k.map kV)) ∧ kvs.length < sizeLine ∧
  (∀ v, valV kvs k = some v → Q v H3) ∧ (valV kvs k = none → Q z (upd H3 a (.dT (putK kvs k z))))
theorem pe_dsetT {X : Cx} {o e f : Expr} {td ty tx : TE} {apos cpos : Pos} (hu : X.A.units + 1 < cLine) (ho : PE X o td) (he : PE X e ty) (hf : PE X f tx) (m : M2 X o "setdefault" apos e f cpos) : PE X (.Call (.Attribute o "setdefault" apos) [e, f] [] cpos) (tSetdT td ty tx) := by
  refine ⟨fun pins s σ H Q I h => ?_⟩
  refine wpAny_Call_method m.base m.few m.line PySem.F.plainAttrs_dict PySem.F.slot_dict_setdefault PySem.F.type_dict_setdefault (thn (ho.run pins s σ H _ I h) fun u s1 ⟨x, H1, I1, rx, a, kvs0, ex, ha0, q1⟩ => ?_)
  subst ex
  obtain rfl : u = Value.ref a := rx
  obtain ⟨_, _, ls0, _, dd0⟩ := dt_of I1.hok ha0
  refine ⟨dd0.typeIs, fun b q => ?_, ?_⟩
  · cases q
    obtain ⟨ob, _, _, k1, k2, _⟩ := dd0
    exact ⟨ob, k1, k2.2.1⟩
  rw [m.trees]
  refine Calls.callWith_builtin rfl (Calls.evalArgs_plain (Calls.spliced_cons (thn (he.run pins s1 σ H1 _ I1 q1) fun iv s2 ⟨y, H2, I2, ry, q2⟩ =>
    Calls.spliced_cons (thn (hf.run pins s2 σ H2 _ I2 q2) fun fv s3 ⟨z, H3, I3, rz, b, kvs, k, ey, ha, hb, hl, q3, q4⟩ => Calls.spliced_nil ?_))))
  subst ey
  obtain rfl : iv = Value.ref b := ry
  obtain ⟨_, nsys, ls, rel, dd⟩ := dt_of I3.hok ha
  have few : ls.length ≤ sizeLine := by
    have := Paired.length rel
    omega
  have few2 : (putK kvs k z).length ≤ sizeLine := by
    have := length_putK kvs k z
    omega
  have rv := rel.val k
  refine call_setdefault_heap (knd := tupleKind (mixKind X.prog X.w)) (hsz := few) (tupleKind_room_in1 hu) (key_of I3.hok hb) nsys dd (fun p hp => ?_) (fun hn h' dd' sb => ?_)
  · cases hv : valV kvs k with
    | none =>
      rw [hv, hp] at rv
      exact (show False from rv).elim
    | some v =>
      rw [hv, hp] at rv
      exact ⟨v, H3, I3.tok _, rv, q3 v hv⟩
  · cases hv : valV kvs k with
    | some v =>
      rw [hv, hn] at rv
      exact (show False from rv).elim
    | none =>
      obtain ⟨o, es, ep, ho, h2, h3, h4, _, h5⟩ := dd'
      refine ⟨z, _, d_write (ob := .dT (putK kvs k z)) (I3.tok _) (by rw [ha]; exact True.intro) sb ⟨o, ho⟩ ⟨few2, nsys, _, (rel.put k hb rz).keeps fun c ys ec => ?_, o, es, ep, ho, h2, h3, h4, h5⟩, rz, q4 hv⟩
      rw [upd_ne (ne_of ec ha (fun z => nomatch z))]
      exact ec
end Mz

set_option Elab.async false
set_option linter.all false
set_option maxRecDepth 100000
set_option maxHeartbeats 4000000
/-! any(..) of a generator whose body may do anything: draining by next -/
namespace Mz
open PySem PySem.Spec PyProof.Rows L2 GenW
/-- a truth comes out: true ends all; behind false the generator goes on -/
def YB (a : Addr) (g : Nat) (Qt : Bool → Shared → Prop) : Protocol := fun n s₀ v s1 kap =>
  s1.heap.IsGen a g ∧ s1.heap.NoLimit ∧ AllBare s1.gens ∧ ((v = .bool true ∧ ∀ G : Array GenState, AllBare G → Qt true { s1 with gens := G }) ∨ (v = .bool false ∧ ∀ G : Array GenState, AllBare G → kap (.send .none) { s1 with gens := G }))
def FB (Qt : Bool → Shared → Prop) : Nat → Shared → Shared → Prop := fun _ _ s1 => AllBare s1.gens ∧ ∀ (G : Array GenState) (h' : Heap), AllBare G → (∀ b o, s1.heap.get? b = some o → h'.get? b = some o) → Qt false { s1 with gens := G, heap := h' }
def RB (Qt : Bool → Shared → Prop) : GenEnd := fun n s₀ r s1 => ((r = .ok (.ret .none) ∨ r = .ok .next) ∧ FB Qt n s₀ s1) ∨ ∃ e, r = .error e ∧ False
theorem any_drain {P : Program} {w : World} {A : Around} {R : Result → Shared → Prop} {a : Addr} {g : Nat} {Qt : Bool → Shared → Prop} (hh : A.handled = none) (hd : A.depth < recursionLimit)
    (hR : ∀ b s', Qt b s' → R (.ok (.ret (.bool b))) s') : ∀ (m : Nat) (s : Shared), s.heap.IsGen a g → s.heap.NoLimit →
      (∃ gs, s.gens[g]? = some gs ∧ gs.Goes (model P w) A.in1.in1 (RB Qt) (YB a g Qt) m (.send .none) (s.setGen g .running)) →
      codeAny (model P w) A (.builtin "any.loop" ⟨[.ref a], []⟩) R s := by
  have goes : ∀ {gs : GenState} {B : Around} {n : Nat} {r : Resume} {s : Shared}, gs.Goes (model P w) B (RB Qt) (YB a g Qt) n r s →
      gs.Goes (model P w) B (fun n s₀ r s1 => ((r = .ok (.ret .none) ∨ r = .ok .next) ∧ FB Qt n s₀ s1) ∨ ∃ e, r = .error e ∧ (fun _ _ => False) e s1) (YB a g Qt) n r s := fun h => h
  intro m
  induction m with
  | zero =>
    intro s hg hl ⟨gs, hgs, hgo⟩
    refine codeAny_builtin F.entry_any_loop ?_
    rw [Around.under_plainId F.plain_any_loop _]
    show wpAny _ A.in1 (pyNext (.ref a) >>= _) _ _ s
    refine wpAny_bind (next_genG (A := A.in1) hh hl hd hg hgs (goes hgo) (fun v s₁ gs' hbare hv => ?_) (fun s₁ hp h' hk => ?_) fun e s₁ he => ?_)
    · obtain ⟨hg1, hl1, hb1, h1 | h1⟩ := hv
      · obtain ⟨rfl, hq⟩ := h1
        refine wpAny_bind (wpAny_holding (wpAny_truthy_bool (wpAny_bind (wpAny_letGo ?_))))
        simp only [if_true]
        exact wpAny_bind (wpAny_rule (wpAny_pure (hR true _ (hq _ (allBare_setGen hb1 hbare)))))
      · exact (h1.2 #[] (fun y hy => absurd hy (by simp))).elim
    · exact wpAny_bind (wpAny_rule (wpAny_pure (hR false _ (hp.2 _ h' (allBare_setGen hp.1 rfl) hk))))
    · exact he.elim
  | succ m ih =>
    intro s hg hl ⟨gs, hgs, hgo⟩
    have hgl : g < s.gens.size := (Array.getElem?_eq_some_iff.mp hgs).1
    refine codeAny_builtin F.entry_any_loop ?_
    rw [Around.under_plainId F.plain_any_loop _]
    show wpAny _ A.in1 (pyNext (.ref a) >>= _) _ _ s
    refine wpAny_bind (wpAny_gsz (n := g + 1) hgl (next_genG (A := A.in1) hh hl hd hg hgs (goes hgo) (fun v s₁ gs' hbare hv => ?_) (fun s₁ hp h' hk => ?_) fun e s₁ he => ?_))
    · intro hsz
      obtain ⟨hg1, hl1, hb1, h1 | h1⟩ := hv
      · obtain ⟨rfl, hq⟩ := h1
        refine wpAny_bind (wpAny_holding (wpAny_truthy_bool (wpAny_bind (wpAny_letGo ?_))))
        simp only [if_true]
        exact wpAny_bind (wpAny_rule (wpAny_pure (hR true _ (hq _ (allBare_setGen hb1 hbare)))))
      · obtain ⟨rfl, hk⟩ := h1
        refine wpAny_bind (wpAny_holding (wpAny_truthy_bool (wpAny_bind (wpAny_letGo ?_))))
        simp only [Bool.false_eq_true, if_false]
        have hsz1 : g < s₁.gens.size := by
          have q : (s₁.setGen g gs').gens.size = s₁.gens.size := setGen_size _ _ _
          have hsz' : g + 1 ≤ (s₁.setGen g gs').gens.size := hsz
          omega
        refine wpAny_pure ⟨plainId_quiet F.plain_any_loop _, ih (s₁.setGen g gs') hg1 hl1 ⟨gs', setGen_at hsz1, ?_⟩⟩
        exact hk _ (allBare_setGen (s := s₁.setGen g gs') (allBare_setGen hb1 hbare) rfl)
    · intro hsz
      exact wpAny_bind (wpAny_rule (wpAny_pure (hR false _ (hp.2 _ h' (allBare_setGen hp.1 rfl) hk))))
    · exact he.elim
/-- any(g) -/
theorem call_any_gen {P : Program} {w : World} {A : Around} {a : Addr} {g m : Nat} {Qt : Bool → Shared → Prop} {gs : GenState} {s : Shared} {Q : Value → Shared → Prop} {E : Value → Shared → Prop} (hh : A.handled = none) (hd : A.depth < recursionLimit)
    (hg : s.heap.IsGen a g) (hl : s.heap.NoLimit) (hgs : s.gens[g]? = some gs) (hgo : gs.Goes (model P w) A.in1.in1 (RB Qt) (YB a g Qt) m (.send .none) (s.setGen g .running))
    (hQ : ∀ b s', Qt b s' → Q (.bool b) s') : wpAny (model P w) A (call (.builtin "any") [.ref a]) Q E s := by
  refine call_function_tree F.kind_any F.plain_any F.entry_any (F.args_any1 _) ?_
  unfold Builtin.«any»
  refine wpAny_bind (m := oneArg "any" _) (wpAny_pure ?_)
  refine wpAny_bind (wpAny_pyIter_gen hg ?_)
  exact wpAny_pure ⟨plainId_quiet F.plain_any_loop _, any_drain hh hd (fun b s' h => hQ b s' h) m s hg hl ⟨gs, hgs, hgo⟩⟩
/-- a truth comes out: false ends all; behind true the generator goes on -/
def YA (a : Addr) (g : Nat) (Qt : Bool → Shared → Prop) : Protocol := fun n s₀ v s1 kap =>
  s1.heap.IsGen a g ∧ s1.heap.NoLimit ∧ AllBare s1.gens ∧ ((v = .bool false ∧ ∀ G : Array GenState, AllBare G → Qt false { s1 with gens := G }) ∨ (v = .bool true ∧ ∀ G : Array GenState, AllBare G → kap (.send .none) { s1 with gens := G }))
def FA (Qt : Bool → Shared → Prop) : Nat → Shared → Shared → Prop := fun _ _ s1 => AllBare s1.gens ∧ ∀ (G : Array GenState) (h' : Heap), AllBare G → (∀ b o, s1.heap.get? b = some o → h'.get? b = some o) → Qt true { s1 with gens := G, heap := h' }
def RA (Qt : Bool → Shared → Prop) : GenEnd := fun n s₀ r s1 => ((r = .ok (.ret .none) ∨ r = .ok .next) ∧ FA Qt n s₀ s1) ∨ ∃ e, r = .error e ∧ False
theorem all_drain {P : Program} {w : World} {A : Around} {R : Result → Shared → Prop} {a : Addr} {g : Nat} {Qt : Bool → Shared → Prop} (hh : A.handled = none) (hd : A.depth < recursionLimit)
    (hR : ∀ b s', Qt b s' → R (.ok (.ret (.bool b))) s') : ∀ (m : Nat) (s : Shared), s.heap.IsGen a g → s.heap.NoLimit →
      (∃ gs, s.gens[g]? = some gs ∧ gs.Goes (model P w) A.in1.in1 (RA Qt) (YA a g Qt) m (.send .none) (s.setGen g .running)) →
      codeAny (model P w) A (.builtin "all.loop" ⟨[.ref a], []⟩) R s := by
  have goes : ∀ {gs : GenState} {B : Around} {n : Nat} {r : Resume} {s : Shared}, gs.Goes (model P w) B (RA Qt) (YA a g Qt) n r s →
      gs.Goes (model P w) B (fun n s₀ r s1 => ((r = .ok (.ret .none) ∨ r = .ok .next) ∧ FA Qt n s₀ s1) ∨ ∃ e, r = .error e ∧ (fun _ _ => False) e s1) (YA a g Qt) n r s := fun h => h
  intro m
  induction m with
  | zero =>
    intro s hg hl ⟨gs, hgs, hgo⟩
    refine codeAny_builtin F.entry_all_loop ?_
    rw [Around.under_plainId F.plain_all_loop _]
    show wpAny _ A.in1 (pyNext (.ref a) >>= _) _ _ s
    refine wpAny_bind (next_genG (A := A.in1) hh hl hd hg hgs (goes hgo) (fun v s₁ gs' hbare hv => ?_) (fun s₁ hp h' hk => ?_) fun e s₁ he => ?_)
    · obtain ⟨hg1, hl1, hb1, h1 | h1⟩ := hv
      · obtain ⟨rfl, hq⟩ := h1
        refine wpAny_bind (wpAny_holding (wpAny_truthy_bool (wpAny_bind (wpAny_letGo ?_))))
        simp only [Bool.false_eq_true, if_false]
        exact wpAny_bind (wpAny_rule (wpAny_pure (hR false _ (hq _ (allBare_setGen hb1 hbare)))))
      · exact (h1.2 #[] (fun y hy => absurd hy (by simp))).elim
    · exact wpAny_bind (wpAny_rule (wpAny_pure (hR true _ (hp.2 _ h' (allBare_setGen hp.1 rfl) hk))))
    · exact he.elim
  | succ m ih =>
    intro s hg hl ⟨gs, hgs, hgo⟩
    have hgl : g < s.gens.size := (Array.getElem?_eq_some_iff.mp hgs).1
    refine codeAny_builtin F.entry_all_loop ?_
    rw [Around.under_plainId F.plain_all_loop _]
    show wpAny _ A.in1 (pyNext (.ref a) >>= _) _ _ s
    refine wpAny_bind (wpAny_gsz (n := g + 1) hgl (next_genG (A := A.in1) hh hl hd hg hgs (goes hgo) (fun v s₁ gs' hbare hv => ?_) (fun s₁ hp h' hk => ?_) fun e s₁ he => ?_))
    · intro hsz
      obtain ⟨hg1, hl1, hb1, h1 | h1⟩ := hv
      · obtain ⟨rfl, hq⟩ := h1
        refine wpAny_bind (wpAny_holding (wpAny_truthy_bool (wpAny_bind (wpAny_letGo ?_))))
        simp only [Bool.false_eq_true, if_false]
        exact wpAny_bind (wpAny_rule (wpAny_pure (hR false _ (hq _ (allBare_setGen hb1 hbare)))))
      · obtain ⟨rfl, hk⟩ := h1
        refine wpAny_bind (wpAny_holding (wpAny_truthy_bool (wpAny_bind (wpAny_letGo ?_))))
        simp only [if_true]
        have hsz1 : g < s₁.gens.size := by
          have q : (s₁.setGen g gs').gens.size = s₁.gens.size := setGen_size _ _ _
          have hsz' : g + 1 ≤ (s₁.setGen g gs').gens.size := hsz
          omega
        refine wpAny_pure ⟨plainId_quiet F.plain_all_loop _, ih (s₁.setGen g gs') hg1 hl1 ⟨gs', setGen_at hsz1, ?_⟩⟩
        exact hk _ (allBare_setGen (s := s₁.setGen g gs') (allBare_setGen hb1 hbare) rfl)
    · intro hsz
      exact wpAny_bind (wpAny_rule (wpAny_pure (hR true _ (hp.2 _ h' (allBare_setGen hp.1 rfl) hk))))
    · exact he.elim
/-- all(g) -/
theorem call_all_gen {P : Program} {w : World} {A : Around} {a : Addr} {g m : Nat} {Qt : Bool → Shared → Prop} {gs : GenState} {s : Shared} {Q : Value → Shared → Prop} {E : Value → Shared → Prop} (hh : A.handled = none) (hd : A.depth < recursionLimit)
    (hg : s.heap.IsGen a g) (hl : s.heap.NoLimit) (hgs : s.gens[g]? = some gs) (hgo : gs.Goes (model P w) A.in1.in1 (RA Qt) (YA a g Qt) m (.send .none) (s.setGen g .running))
    (hQ : ∀ b s', Qt b s' → Q (.bool b) s') : wpAny (model P w) A (call (.builtin "all") [.ref a]) Q E s := by
  refine call_function_tree F.kind_all F.plain_all F.entry_all (F.args_all1 _) ?_
  unfold Builtin.«all»
  refine wpAny_bind (m := oneArg "all" _) (wpAny_pure ?_)
  refine wpAny_bind (wpAny_pyIter_gen hg ?_)
  exact wpAny_pure ⟨plainId_quiet F.plain_all_loop _, all_drain hh hd (fun b s' h => hQ b s' h) m s hg hl ⟨gs, hgs, hgo⟩⟩
end Mz

set_option Elab.async false
set_option linter.all false
set_option maxRecDepth 100000
set_option maxHeartbeats 4000000
/-! a generator expression's own code, its element anything: an invariant J goes from turn to turn -/
namespace Mz
open PySem PySem.Spec PyProof.Rows L2 GenW
section
variable {prog : Program} {w : World} {A : Around}
theorem seg_genI {elt iter tg : Expr} {scope : Scope} {pos : Pos} {I : Addr} {n₀ : Nat} {cenv : Env} {R : GenEnd} {Y : Protocol}
    (J : Nat → Shared → Prop) (YY : Nat → Value → Shared → Prop) (D : Shared → Prop) (hco : cenv.scope.isCoroutine = false)
    (done : ∀ s, J n₀ s → wpAny (model prog w) (A.over (.compLoop (.GeneratorExp elt [⟨tg, iter, [], 0⟩] scope pos) 0 (.ref I) .none cenv) []) (pyNext (.ref I)) (fun r s' => r = none ∧ D s') (fun _ _ => False) s)
    (item : ∀ i s, i < n₀ → J i s → wpAny (model prog w) (A.over (.compLoop (.GeneratorExp elt [⟨tg, iter, [], 0⟩] scope pos) 0 (.ref I) .none cenv) []) (pyNext (.ref I)) (fun r s0 => ∃ v, r = some v ∧ wpAny (model prog w) (A.over (.compLoop (.GeneratorExp elt [⟨tg, iter, [], 0⟩] scope pos) 0 (.ref I) .none cenv) []) (letOwnedTupleGo tg (.ref I) v) (fun _ s1 =>
      wpAny (model prog w) (A.over (.compLoop (.GeneratorExp elt [⟨tg, iter, [], 0⟩] scope pos) 0 (.ref I) .none cenv) []) (assign tg cenv v) (fun _ s2 =>
        wpAny (model prog w) (A.over (.compLoop (.GeneratorExp elt [⟨tg, iter, [], 0⟩] scope pos) 0 (.ref I) .none cenv) []) (eval elt cenv) (fun y s3 => YY i y s3) (fun _ _ => False) s2) (fun _ _ => False) s1) (fun _ _ => False) s0) (fun _ _ => False) s)
    (hR : ∀ n s₀ s, D s → R n s₀ (.ok .next) s)
    (hY : ∀ n s₀ i y s, i < n₀ → YY i y s → ∀ kap : Resume → Shared → Prop, (∀ s'', J (i + 1) s'' → kap (.send .none) s'') → Y n s₀ y s kap) :
    ∀ (k i : Nat) (s₀ s : Shared), n₀ - i = k → i ≤ n₀ → J i s →
      Seg (model prog w) A R Y k s₀
        (.compLoop (.GeneratorExp elt [⟨tg, iter, [], 0⟩] scope pos) 0 (.ref I) .none cenv)
        ((model prog w).den (.compLoop (.GeneratorExp elt [⟨tg, iter, [], 0⟩] scope pos) 0 (.ref I) .none cenv)) [] s := by
  intro k
  induction k with
  | zero =>
    intro i s₀ s hk hi hJ
    have hin : i = n₀ := by omega
    subst hin
    show Seg _ A _ _ _ s₀ _ ((compTurn (.GeneratorExp elt [⟨tg, iter, [], 0⟩] scope pos) 0 (.ref I) .none cenv).onRaise (leaving cenv)) [] s
    rw [compTurn_gen, Sem.onRaise_eq_wrap]
    refine seg_bind_wrap (wpAny_standAt ?_)
    refine seg_bind_wrap (wpAny_mono (done s hJ) (fun r s' h' => ?_) fun _ _ e => e.elim)
    obtain ⟨rfl, hD⟩ := h'
    exact seg_end (.ok .next) (hR _ _ _ hD)
  | succ k ih =>
    intro i s₀ s hk hi hJ
    have hlt : i < n₀ := by omega
    show Seg _ A _ _ _ s₀ _ ((compTurn (.GeneratorExp elt [⟨tg, iter, [], 0⟩] scope pos) 0 (.ref I) .none cenv).onRaise (leaving cenv)) [] s
    rw [compTurn_gen, Sem.onRaise_eq_wrap]
    refine seg_bind_wrap (wpAny_standAt ?_)
    refine seg_bind_wrap (wpAny_mono (item i s hlt hJ) (fun r s1 h1 => ?_) fun _ _ e => e.elim)
    obtain ⟨v, rfl, h1⟩ := h1
    refine seg_bind_wrap (wpAny_mono h1 (fun _ s1' h1 => ?_) fun _ _ e => e.elim)
    refine seg_bind_wrap (wpAny_mono h1 (fun _ s2 h2 => ?_) fun _ _ e => e.elim)
    refine seg_bind_wrap (wpAny_of_eq (a := true) (by simp only [List.forIn_nil]) ?_)
    simp only [if_true]
    have hy : ∀ v, yieldOut cenv v = yieldValue v := fun v => by simp only [yieldOut, hco, Bool.false_eq_true, if_false]
    simp only [hy]
    rw [Sem.bind_eq_wrap', Sem.bind_eq_wrap', Sem.wrap_wrap, Sem.wrap_wrap]
    refine seg_wrap (wpAny_mono h2 (fun y s3 h3 => ?_) fun _ _ e => e.elim)
    refine seg_at (seg_yield rfl rfl rfl (hY _ _ i y s3 hlt h3 _ fun s'' hJ' => ?_))
    exact seg_again rfl (ih (i + 1) s'' s'' (by omega) hlt hJ')

theorem seg_genStartI {elt iter tg : Expr} {scope : Scope} {pos : Pos} {I : Addr} {n₀ : Nat} {cenv : Env} {R : GenEnd} {Y : Protocol}
    (J : Nat → Shared → Prop) (YY : Nat → Value → Shared → Prop) (D : Shared → Prop) (hco : cenv.scope.isCoroutine = false)
    (done : ∀ s, J n₀ s → wpAny (model prog w) (A.over (.compLoop (.GeneratorExp elt [⟨tg, iter, [], 0⟩] scope pos) 0 (.ref I) .none cenv) []) (pyNext (.ref I)) (fun r s' => r = none ∧ D s') (fun _ _ => False) s)
    (item : ∀ i s, i < n₀ → J i s → wpAny (model prog w) (A.over (.compLoop (.GeneratorExp elt [⟨tg, iter, [], 0⟩] scope pos) 0 (.ref I) .none cenv) []) (pyNext (.ref I)) (fun r s0 => ∃ v, r = some v ∧ wpAny (model prog w) (A.over (.compLoop (.GeneratorExp elt [⟨tg, iter, [], 0⟩] scope pos) 0 (.ref I) .none cenv) []) (letOwnedTupleGo tg (.ref I) v) (fun _ s1 =>
      wpAny (model prog w) (A.over (.compLoop (.GeneratorExp elt [⟨tg, iter, [], 0⟩] scope pos) 0 (.ref I) .none cenv) []) (assign tg cenv v) (fun _ s2 =>
        wpAny (model prog w) (A.over (.compLoop (.GeneratorExp elt [⟨tg, iter, [], 0⟩] scope pos) 0 (.ref I) .none cenv) []) (eval elt cenv) (fun y s3 => YY i y s3) (fun _ _ => False) s2) (fun _ _ => False) s1) (fun _ _ => False) s0) (fun _ _ => False) s)
    (self : ∀ s, J 0 s → ∀ (Q : Value → Shared → Prop) (E : Value → Shared → Prop), Q (.ref I) s → wpAny (model prog w) (A.over (.compStart (.GeneratorExp elt [⟨tg, iter, [], 0⟩] scope pos) 0 (.ref I) .none cenv) []) (pyIter (.ref I)) Q E s)
    (hR : ∀ n s₀ s, D s → R n s₀ (.ok .next) s)
    (hY : ∀ n s₀ i y s, i < n₀ → YY i y s → ∀ kap : Resume → Shared → Prop, (∀ s'', J (i + 1) s'' → kap (.send .none) s'') → Y n s₀ y s kap)
    (s₀ s : Shared) (hJ : J 0 s) :
    Seg (model prog w) A R Y n₀ s₀
      (.compStart (.GeneratorExp elt [⟨tg, iter, [], 0⟩] scope pos) 0 (.ref I) .none cenv)
      ((model prog w).den (.compStart (.GeneratorExp elt [⟨tg, iter, [], 0⟩] scope pos) 0 (.ref I) .none cenv)) [] s := by
  have loop := seg_genI J YY D hco done item hR hY n₀ 0 s₀ s (Nat.sub_zero _) (Nat.zero_le _) hJ
  show Seg _ A _ _ _ s₀ _ ((compStart (.GeneratorExp elt [⟨tg, iter, [], 0⟩] scope pos) 0 (.ref I) .none cenv).onRaise (leaving cenv)) [] s
  unfold compStart
  rw [Sem.onRaise_eq_wrap]
  show Seg _ A _ _ _ s₀ _ ((ask >>= _).wrap _ _ _ _) [] s
  refine seg_bind_wrap (wpAny_askSetting ?_)
  split
  · exact seg_again rfl loop
  · first
      | exact seg_bind_wrap (wpAny_rule (seg_bind_wrap (wpAny_standAt (seg_bind_wrap (self s hJ _ _ (seg_again rfl loop))))))
      | (refine seg_bind_wrap (wpAny_rule ?_); show Seg _ A _ _ _ s₀ _ ((standAt iter.pos >>= _).wrap _ _ _ _) [] s; exact seg_bind_wrap (wpAny_standAt (seg_bind_wrap (self s hJ _ _ (seg_again rfl loop)))))
end
end Mz

set_option Elab.async false
set_option linter.all false
set_option maxRecDepth 100000
set_option maxHeartbeats 4000000
/-! the context of a generator expression's own scope -/
namespace Mz
open PySem PySem.Spec PyProof.Rows L2 GenW
/-- the generator expression's scope: «.0», its name x, captured names -/
structure GenF (sc scope : Scope) (x : Str) : Prop where
  kind : scope.kind = .function
  co : scope.isCoroutine = false
  cell : ∀ y ∈ scope.names, y.2 ≠ .cell
  dot : scope.names.lookup (".0" : Str) = some NameKind.local
  loc : scope.names.lookup x = some .local
  free : ∀ y ∈ scope.names, y.2 = .free → sc.names.lookup y.1 = some .cell ∨ sc.names.lookup y.1 = some .free
theorem GenF.has {X : Cx} {scope : Scope} {x : Str} (L : GenF X.env.scope scope x) (ok : X.Ok) : ∀ y ∈ scope.names, y.2 = .free → ∃ c, X.env.cells.lookup y.1 = some c := fun y hy e => by
  rcases L.free y hy e with k | k
  · exact ok.has _ (.inl k)
  · exact ok.has _ (.inr k)
abbrev gEnv (X : Cx) (scope : Scope) (C : Addr) (code : Value) : Env := genEnv scope (cloFrom X.env.cells scope.names []) C code builtinsNs X.env
/-- the context of its element, made at s -/
def genCx (X : Cx) (A : Around) (scope : Scope) (s : Shared) (H : Hp) (code : Value) (N' : List Str) (fp : List Addr) : Cx where
  prog := X.prog
  w := X.w
  K := X.K
  mg := X.mg
  base := X.base
  A := A
  N := N'
  s_0 := s
  H_0 := H
  env := gEnv X scope s.heap.objs.size code
  outer := X.stack
  stack := gEnv X scope s.heap.objs.size code :: X.stack
  ex := fp
  fn := fun _ => false
  calm := true
  pn := []
  xe := fun _ _ => False
section
variable {X : Cx} {pins : List (Addr × Obj)} {σ : L2.St} {H : Hp} {s s5 : Shared}
theorem gen_start {A : Around} {scope : Scope} {x : Str} {code it : Value} {N' : List Str} {fp : List Addr} {σ' : L2.St} (hfp : ∀ b ∈ fp, FpOk X pins H b ∧ b < s.heap.objs.size) (I : Inv X pins σ H s) (L : GenF X.env.scope scope x) (hd : A.handled = none) (hfr : A.frames = some (gEnv X scope s.heap.objs.size code :: X.stack))
    (hl : σ'.length = N'.length) (hσ : ∀ (i : Nat) (y : Str) (v : V), N'[i]? = some y → σ'[i]? = some (some v) → (scope.names.lookup y = some .local → False) ∧ (scope.names.lookup y = some .free → ∃ j : Nat, X.N[j]? = some y ∧ σ[j]? = some (some v)))
    (hns : s5.heap.Ns s.heap.objs.size fun y => if y = ".0" then some it else none) (kp : ∀ b o, s.heap.get? b = some o → s5.heap.get? b = some o) (hos : s5.os = s.os) (hb : AllBare s5.gens) :
    Inv (genCx X A scope s H code N' fp) [] σ' H s5 := by
  have hfree := L.has I.ok
  have e0 := I.env0
  have cm : ∀ {y c}, (cloFrom X.env.cells scope.names []).lookup y = some c → X.env.cells.lookup y = some c := fun {y c} e => by
    rcases cloFrom_mem (PySem.mem_of_lookup e) with hm | ⟨h1, h2⟩
    · cases hm
    · obtain ⟨c1, hc⟩ := hfree _ h1 rfl
      have hc : X.env.cells.lookup y = some c1 := hc
      have e2 : c = c1 := by
        rw [h2, hc] <;> rfl
      rw [e2]
      exact hc
  have look : ∀ {y}, scope.names.lookup y = some .free → ∃ c, (cloFrom X.env.cells scope.names []).lookup y = some c := fun {y} hl => by
    have hy : (y, NameKind.free) ∈ scope.names := PySem.mem_of_lookup hl
    exact mem_lookup (cloFrom_has (cells := X.env.cells) (acc := []) hy)
  have cellK : ∀ {c : Addr} {v : Option Value}, s.heap.IsCell c v → s5.heap.IsCell c v := fun {c v} ⟨o, ho, hd⟩ => ⟨_, kp _ _ ho, hd⟩
  refine ⟨⟨e0.mod, L.kind, I.ok.glob, rfl, Nat.le_refl _, fun y z c e1 e2 => I.ok.inj y z c (cm e1) (cm e2), fun y hy => ?_, fun y c z _ => ?_, fun _ => hd, hfr, .inr ⟨rfl, rfl⟩, fun b z => ?_, e0.bs, e0.bsz, fun b o e z => ?_,
      fun b z hm => ?_, e0.funs, e0.frf⟩,
    hos, hb, Un.kept kp, ⟨_, hns, fun i y v e1 e2 e3 => ?_⟩, fun y c e => ?_, I.hok.fresh (Nat.le_refl _), fun y c e => ?_, fun q hq => absurd (show q ∈ ([] : List (Addr × Obj)) ++ [] from hq) (by simp), I.hok.kept kp, hl⟩
  · have hy : scope.names.lookup y = some .cell ∨ scope.names.lookup y = some .free := hy
    rcases hy with hy | hy
    · exact absurd rfl (L.cell _ (PySem.mem_of_lookup hy))
    · exact look hy
  · have z : false = true := z
    cases z
  · obtain ⟨f, hlt⟩ := hfp b z
    exact ⟨Nat.ne_of_lt hlt, fun y c e => f.2.2.2.2.1 y c (cm e)⟩
  · obtain ⟨⟨_, _, _, f3, _⟩, _⟩ := hfp b z
    rcases f3 with f3 | f3
    · exact I.ok.noex b o e f3
    · exact absurd (Nat.lt_of_lt_of_le (Heap.lt_size e) I.ok.bsz) (Nat.not_lt.mpr f3)
  · obtain ⟨⟨_, f1, f2, _⟩, _⟩ := hfp b z
    rcases List.mem_cons.mp (I.stkSub b hm) with q | q
    · exact f1 q
    · exact f2 q
  · have e3 : Vis scope y := e3
    rcases e3 with k | k | k
    · exact ((hσ i y v e1 e2).1 k).elim
    · exact absurd rfl (L.cell _ (PySem.mem_of_lookup k))
    · obtain ⟨j, f1, f2⟩ := (hσ i y v e1 e2).2 k
      obtain ⟨m, hn, hl⟩ := I.loc
      have hvis : Vis X.env.scope y := (L.free _ (PySem.mem_of_lookup k) rfl).elim (fun k => .inr (.inl k)) (fun k => .inr (.inr k))
      obtain ⟨w', r, q⟩ := hl j y v f1 f2 hvis
      obtain ⟨c2, h2⟩ := look k
      refine ⟨w', r, .inr ⟨.inr k, c2, h2, ?_⟩⟩
      have c1 := cm h2
      rcases q with ⟨k', _⟩ | ⟨_, c3, e', z⟩
      · have k' : X.env.scope.names.lookup y = some .local := k'
        rcases L.free _ (PySem.mem_of_lookup k) rfl with k2 | k2 <;> rw [show X.env.scope.names.lookup y = _ from k2] at k' <;> cases k'
      · have e4 : some c2 = some c3 := c1.symm.trans e'
        cases e4
        exact cellK z
  · obtain ⟨v, q⟩ := I.cell y c (cm e)
    exact ⟨v, cellK q⟩
  · exact I.freeC y c (cm e)
end
end Mz

set_option Elab.async false
set_option linter.all false
set_option maxRecDepth 100000
set_option maxHeartbeats 4000000
/-! any(elt for tg in iter), the element anything -/
namespace Mz
open PySem PySem.Spec PyProof.Rows L2 GenW GxR
section
variable {X : Cx} {pins : List (Addr × Obj)} {σ : L2.St} {H : Hp} {s s5 : Shared}
theorem any_run {elt iter tg : Expr} {scope : Scope} {x : Str} {gpos : Pos} {code itv : Value} {N' : List Str} {fp : List Addr} {σ' : L2.St} {a it : Addr} {g k n₀ : Nat} {tn : Nat → Heap → Prop} {J : It} {gt : TG} {te : TE} {W : Nat → L2.St → Hp → Prop} {Q : VK} {E : Value → Shared → Prop}
    (hr : Room (k + 3) X.A) (I : Inv X pins σ H s) (L : GenF X.env.scope scope x) (T : Turn X.prog X.w X.K tg J fp it tn) (st : tn 0 s.heap) (f2 : ∀ b ∈ fp, FpOk X pins H b)
    (hl : σ'.length = N'.length) (hσ : ∀ (i : Nat) (y : Str) (v : V), N'[i]? = some y → σ'[i]? = some (some v) → (scope.names.lookup y = some .local → False) ∧ (scope.names.lookup y = some .free → ∃ j : Nat, X.N[j]? = some y ∧ σ[j]? = some (some v)))
    (hns : s5.heap.Ns s.heap.objs.size fun y => if y = ".0" then some itv else none) (kp : ∀ b o, s.heap.get? b = some o → s5.heap.get? b = some o) (hos : s5.os = s.os) (hb : AllBare s5.gens)
    (ha : s.heap.objs.size < a) (hg : s5.heap.IsGen a g) (hgs : s5.gens[g]? = some (.fresh (.compStart (.GeneratorExp elt [⟨tg, iter, [], 0⟩] scope gpos) 0 (.ref it) .none (gEnv X scope s.heap.objs.size code))))
    (hel : ∀ A : Around, Room k A → A.frames = some (gEnv X scope s.heap.objs.size code :: X.stack) → PG (genCx X A scope s H code N' fp) tg gt ∧ PE (genCx X A scope s H code N' fp) elt te)
    (w0 : W 0 σ' H) (turn : ∀ i σ1 H1, i < n₀ → W i σ1 H1 → J.go i H1 ∧ ∀ v H2, J.yld i H1 v H2 → gt v σ1 H2 fun σ2 H3 => te σ2 H3 fun r H4 => ∃ b, r = .bl b ∧ (b = true → Q (.bl true) H4) ∧ (b = false → W (i + 1) σ2 H4))
    (stop : ∀ σ1 H1, W n₀ σ1 H1 → J.stop n₀ H1 ∧ Q (.bl false) H1) :
    wpAny (model X.prog X.w) X.A (call (.builtin "any") [.ref a]) (EP X pins σ Q) E s5 := by
  obtain ⟨go, nm, qn, ho, hc, hdd, hsl⟩ := id hg
  have hrl : Room k (X.A.in1.in1.over (.compLoop (.GeneratorExp elt [⟨tg, iter, [], 0⟩] scope gpos) 0 (.ref it) .none (gEnv X scope s.heap.objs.size code)) []) :=
    ⟨hr.hd, by have := hr.dp; show X.A.depth + 1 + 3 * k + 5 < _; omega, by have := hr.un; show X.A.units + 1 + 1 + 3 + 16 * k + 200 < _; omega⟩
  have hfl : (X.A.in1.in1.over (.compLoop (.GeneratorExp elt [⟨tg, iter, [], 0⟩] scope gpos) 0 (.ref it) .none (gEnv X scope s.heap.objs.size code)) []).frames = some (gEnv X scope s.heap.objs.size code :: X.stack) := by
    show pushEnvs [gEnv X scope s.heap.objs.size code] X.A.frames = _
    rw [I.ok.frames]
    rfl
  obtain ⟨hpg, hpe⟩ := hel _ hrl hfl
  have hlt : ∀ b ∈ fp, b < s.heap.objs.size := fun b hb => by
    obtain ⟨o, e, _⟩ := T.obj _ _ st b hb
    exact Heap.lt_size e
  have I0 := gen_start (N' := N') (fp := fp) (σ' := σ') (it := itv) (code := code) (fun b hb => ⟨f2 b hb, hlt b hb⟩) I L hrl.hd hfl hl hσ hns kp hos hb
  have I5 := I0.pins_of (pins' := [(a, go)]) fun p hp => by
    rw [List.mem_singleton.mp hp]
    refine ⟨ho, I.hok.fresh (Nat.le_of_lt ha), Nat.ne_of_gt ha, fun hm => ?_, fun v q => by rw [show go.data = _ from hdd] at q; cases q⟩
    rcases List.mem_cons.mp (I.stkSub a hm) with q | q
    · have h1 := I.lt
      rw [← q] at h1
      exact Nat.lt_irrefl _ (Nat.lt_trans h1 ha)
    · exact I.nofs (Nat.le_of_lt ha) q
  have stat : ∀ {H1 : Hp}, (∀ b ∈ fp, H1 b = none) → ∀ b ∈ fp, FpOk (genCx X (X.A.in1.in1.over (.compLoop (.GeneratorExp elt [⟨tg, iter, [], 0⟩] scope gpos) 0 (.ref it) .none (gEnv X scope s.heap.objs.size code)) []) scope s H code N' fp) [(a, go)] H1 b :=
    fun {H1} hn b hb => ⟨hn b hb, (I0.ok.exf b hb).1, I0.ok.exfs b hb, .inl hb, (I0.ok.exf b hb).2, fun p hp => by
      have hp : p ∈ ([] : List (Addr × Obj)) ++ [(a, go)] := hp
      rw [List.nil_append, List.mem_singleton] at hp
      rw [hp]
      exact Nat.ne_of_gt (Nat.lt_trans (hlt b hb) ha)⟩
  have regen : ∀ {σ1 : L2.St} {H1 : Hp} {s' : Shared} (G : Array GenState), AllBare G → Inv (genCx X (X.A.in1.in1.over (.compLoop (.GeneratorExp elt [⟨tg, iter, [], 0⟩] scope gpos) 0 (.ref it) .none (gEnv X scope s.heap.objs.size code)) []) scope s H code N' fp) [(a, go)] σ1 H1 s' →
      Inv (genCx X (X.A.in1.in1.over (.compLoop (.GeneratorExp elt [⟨tg, iter, [], 0⟩] scope gpos) 0 (.ref it) .none (gEnv X scope s.heap.objs.size code)) []) scope s H code N' fp) [(a, go)] σ1 H1 { s' with gens := G } :=
    fun {σ1 H1 s'} G hG K => K.call' (ch := []) (s' := { s' with gens := G }) rfl Un.refl K.hok hG fun b z => absurd z (by simp)
  have back : ∀ {σ1 : L2.St} {H1 : Hp} {s' : Shared} (G : Array GenState) (h' : Heap), AllBare G → (∀ b o, s'.heap.get? b = some o → h'.get? b = some o) → Inv (genCx X (X.A.in1.in1.over (.compLoop (.GeneratorExp elt [⟨tg, iter, [], 0⟩] scope gpos) 0 (.ref it) .none (gEnv X scope s.heap.objs.size code)) []) scope s H code N' fp) [(a, go)] σ1 H1 s' →
      Inv X pins σ H1 { s' with gens := G, heap := h' } := fun {σ1 H1 s'} G h' hG hk K =>
    I.call' (ch := fp) (s' := { s' with gens := G, heap := h' }) K.os (Un.trans K.base (Un.kept hk)) (K.hok.kept hk) hG fun b hb => ⟨(f2 b hb).2.2.2.1, (f2 b hb).2.1, (f2 b hb).2.2.2.2.1, (f2 b hb).2.2.2.2.2⟩
  have gen : ∀ {σ1 : L2.St} {H1 : Hp} {s' : Shared}, Inv (genCx X (X.A.in1.in1.over (.compLoop (.GeneratorExp elt [⟨tg, iter, [], 0⟩] scope gpos) 0 (.ref it) .none (gEnv X scope s.heap.objs.size code)) []) scope s H code N' fp) [(a, go)] σ1 H1 s' → s'.heap.IsGen a g :=
    fun {σ1 H1 s'} K => ⟨go, nm, qn, (K.pin (a, go) (List.mem_append_right _ (List.mem_singleton.mpr rfl))).1, hc, hdd, hsl⟩
  refine call_any_gen (m := n₀) (Qt := fun b s' => EP X pins σ Q (.bool b) s') hr.hd hr.depth hg I0.nolimit hgs ⟨rfl, ?_⟩ (fun b s' h => h)
  refine seg_genStartI (n₀ := n₀)
    (fun i s' => ∃ σ1 H1, Inv (genCx X (X.A.in1.in1.over (.compLoop (.GeneratorExp elt [⟨tg, iter, [], 0⟩] scope gpos) 0 (.ref it) .none (gEnv X scope s.heap.objs.size code)) []) scope s H code N' fp) [(a, go)] σ1 H1 s' ∧ tn i s'.heap ∧ (∀ b ∈ fp, H1 b = none) ∧ W i σ1 H1)
    (fun i y s' => ∃ σ1 H1 b, y = .bool b ∧ Inv (genCx X (X.A.in1.in1.over (.compLoop (.GeneratorExp elt [⟨tg, iter, [], 0⟩] scope gpos) 0 (.ref it) .none (gEnv X scope s.heap.objs.size code)) []) scope s H code N' fp) [(a, go)] σ1 H1 s' ∧ tn (i + 1) s'.heap ∧ (∀ b ∈ fp, H1 b = none) ∧
      (b = true → Q (.bl true) H1) ∧ (b = false → W (i + 1) σ1 H1))
    (fun s' => ∃ σ1 H1, Inv (genCx X (X.A.in1.in1.over (.compLoop (.GeneratorExp elt [⟨tg, iter, [], 0⟩] scope gpos) 0 (.ref it) .none (gEnv X scope s.heap.objs.size code)) []) scope s H code N' fp) [(a, go)] σ1 H1 s' ∧ Q (.bl false) H1)
    L.co ?_ ?_ ?_ ?_ ?_ _ _ ?_
  · rintro s1 ⟨σ1, H1, K, t1, n1, w1⟩
    obtain ⟨q1, q2⟩ := stop σ1 H1 w1
    refine wpAny_mono (T.done (genCx X (X.A.in1.in1.over (.compLoop (.GeneratorExp elt [⟨tg, iter, [], 0⟩] scope gpos) 0 (.ref it) .none (gEnv X scope s.heap.objs.size code)) []) scope s H code N' fp) rfl rfl rfl rfl n₀ _ s1 σ1 H1 _ K (stat n1) t1 q1) (fun r s2 h2 => ?_) fun _ _ e => e
    exact ⟨h2.1, σ1, H1, h2.2, q2⟩
  · rintro i s1 hi ⟨σ1, H1, K, t1, n1, w1⟩
    obtain ⟨q1, q2⟩ := turn i σ1 H1 hi w1
    refine wpAny_mono (T.item (genCx X (X.A.in1.in1.over (.compLoop (.GeneratorExp elt [⟨tg, iter, [], 0⟩] scope gpos) 0 (.ref it) .none (gEnv X scope s.heap.objs.size code)) []) scope s H code N' fp) rfl rfl rfl rfl i _ s1 σ1 H1 _ K (stat n1) t1 q1) (fun r s2 h2 => ?_) fun _ _ e => e
    obtain ⟨u, hu, h2⟩ := h2
    refine ⟨u, hu, wpAny_mono h2 (fun _ s3 h3 => ?_) fun _ _ e => e⟩
    obtain ⟨v, H3, K3, r3, y3, t3, n3⟩ := h3
    have K3' := K3.pinned (stat n3) (T.obj _ _ t3)
    refine wpAny_mono (hpg.run _ s3 σ1 H3 v u _ K3' r3 (q2 v H3 y3)) (fun _ s4 h4 => ?_) fun _ _ e => e
    obtain ⟨σ4, H4, K4, q4⟩ := h4
    refine wpAny_mono (hpe.run _ s4 σ4 H4 _ K4 q4) (fun y s6 h6 => ?_) fun _ _ e => e
    obtain ⟨v6, H6, K6, r6, b, e6, q6⟩ := h6
    subst e6
    obtain rfl : y = .bool b := r6
    refine ⟨σ4, H6, b, rfl, K6.unpinned, T.keep _ _ _ t3 fun b hb o e => (K6.pin (b, o) (List.mem_append_right _ (List.mem_append_right _ (mem_pinsAt hb e)))).1, fun b hb => ?_, q6⟩
    obtain ⟨o, e, d⟩ := T.obj _ _ t3 b hb
    exact (K6.pin (b, o) (List.mem_append_right _ (List.mem_append_right _ (mem_pinsAt hb e)))).2.1
  · rintro s1 ⟨σ1, H1, K, t1, n1, w1⟩ Q' E' hq
    exact T.self _ 0 s1 Q' E' t1 hq
  · rintro n s₀ s1 ⟨σ1, H1, K, q⟩
    exact .inl ⟨.inr rfl, K.bare, fun G h' hG hk => ⟨.bl false, H1, back G h' hG hk K, rfl, q⟩⟩
  · rintro n s₀ i y s1 hi ⟨σ1, H1, b, rfl, K, t1, n1, q1, q2⟩ kap hk
    refine ⟨gen K, K.nolimit, K.bare, ?_⟩
    cases b with
    | true => exact .inl ⟨rfl, fun G hG => ⟨.bl true, H1, back G s1.heap hG (fun _ _ e => e) K, rfl, q1 rfl⟩⟩
    | false => exact .inr ⟨rfl, fun G hG => hk _ ⟨σ1, H1, regen G hG K, t1, n1, q2 rfl⟩⟩
  · refine ⟨σ', H, regen _ (allBare_setGen hb rfl) I5, T.keep _ _ _ st fun b hb o e => kp b o e, fun b hb => (f2 b hb).1, w0⟩
end
end Mz

set_option Elab.async false
set_option linter.all false
set_option maxRecDepth 100000
set_option maxHeartbeats 4000000
/-! any(elt for tg in iter): the expression -/
namespace Mz
open PySem PySem.Spec PyProof.Rows L2 GenW GxR
/-- J: what is walked; P: the def's table, it may have grown when the code object is made; W: the invariant by the turn -/
def tAnyG (P : Addr) (wipe : L2.St → L2.St) (wi : TI) (gt : TG) (te : TE) : TE := fun σ H Q => wi σ H fun J H1 => TabG H1 P ∧ ∀ H2, Tabbed P H1 H2 → ∃ (W : Nat → L2.St → Hp → Prop) (n₀ : Nat), W 0 (wipe σ) H2 ∧
  (∀ i σ1 H1, i < n₀ → W i σ1 H1 → J.go i H1 ∧ ∀ v H2, J.yld i H1 v H2 → gt v σ1 H2 fun σ2 H3 => te σ2 H3 fun r H4 => ∃ b, r = .bl b ∧ (b = true → Q (.bl true) H4) ∧ (b = false → W (i + 1) σ2 H4)) ∧
  ∀ σ1 H1, W n₀ σ1 H1 → J.stop n₀ H1 ∧ Q (.bl false) H1
section
variable {X : Cx}
theorem pe_anyG {c P : Addr} {elt iter tg : Expr} {scope : Scope} {x : Str} {p pos gpos : Pos} {k : Nat} {wi : TI} {gt : TG} {te : TE} (N' : List Str) (wipe : L2.St → L2.St)
    (hr : Room (k + 3) X.A) (hg : Gl X "any") (hm : X.mg "any" = none) (TB : TabB X.base X.mg c P) (hcode : X.env.code = .ref c) (L : GenF X.env.scope scope x) (hi : PI X tg iter wi)
    (hl : ∀ σ : L2.St, σ.length = X.N.length → (wipe σ).length = N'.length)
    (hσ : ∀ (σ : L2.St) (i : Nat) (y : Str) (v : V), N'[i]? = some y → (wipe σ)[i]? = some (some v) → (scope.names.lookup y = some .local → False) ∧ (scope.names.lookup y = some .free → ∃ j : Nat, X.N[j]? = some y ∧ σ[j]? = some (some v)))
    (hel : ∀ (A : Around) (s : Shared) (H : Hp) (code : Value) (fp : List Addr), Room k A → A.frames = some (gEnv X scope s.heap.objs.size code :: X.stack) → PG (genCx X A scope s H code N' fp) tg gt ∧ PE (genCx X A scope s H code N' fp) elt te)
    (hs : ∀ v, genFold iter X.env v = pure v)
    (he : starEach [.GeneratorExp elt [⟨tg, iter, [], 0⟩] scope gpos] X.env = (false, eval (.GeneratorExp elt [⟨tg, iter, [], 0⟩] scope gpos) X.env) :: starEach [] X.env := by rfl) :
    PE X (.Call (.Name "any" p) [.GeneratorExp elt [⟨tg, iter, [], 0⟩] scope gpos] [] pos) (tAnyG P wipe wi gt te) := by
  refine ⟨fun pins s σ H Q I h => ?_⟩
  refine wpAny_Call_Name_kw (ld_blt I hg hm boot_any ?_)
  refine PyProof.Rows.callWith_builtin1 ?_ he (by rfl)
  rw [he]
  show wpAny _ _ (spliced ((false, eval (.GeneratorExp elt [⟨tg, iter, [], 0⟩] scope gpos) X.env) :: backTo pos (starEach [] X.env))) _ _ s
  refine Calls.spliced_cons (wpAny_GeneratorExp_make L.co (closure_ok (L.has I.ok)) L.cell L.dot L.kind hr.depth (thn (hi.run pins s σ H _ I h) fun xv s1 h1 => thn h1 fun itv s2 h2 => ?_) hs)
  obtain ⟨it, fp, tn, J, H2, rfl, I2, T, st2, f2, ⟨ps, hP, ht⟩, hw⟩ := h2
  have hPs : s2.heap.get? P = some { cls := .none, data := .fields ps } := I2.hok P _ hP
  have hPlt : P < s2.heap.objs.size := Heap.lt_size hPs
  have cd : PySem.W.CodeHd s2.heap c P := TB.code.keeps fun b u e => I2.bk b u e
  have cont : ∀ (code : Value) (h3 : Heap) (tk : Nat) (ps' : Array Value), Heap.ExtBut P s2.heap h3 → s2.heap.objs.size ≤ h3.objs.size → h3.get? P = some { cls := .none, data := .fields ps' } → (∃ more, ps' = ps ++ more) → TriplesOk ps'.toList →
      wpAny (model X.prog X.w) X.A (builtinsFor X.env.globals X.env.builtins) (fun bi s₄ =>
        ∀ h', h'.Ns s₄.heap.objs.size (fun y => if y = ".0" then some (.ref it) else none) → Heap.SameBut s₄.heap.objs.size (s₄.heap.push { cls := .type "frame", data := .dict #[] }) h' →
          wpAny (model X.prog X.w) X.A (spliced (backTo pos (starEach [] X.env))) (fun vs s' => wpAny (model X.prog X.w) X.A (call (.builtin "any") (.ref h'.objs.size :: vs)) (EP X pins σ Q) X.xe s') X.xe { s₄ with
            gens := s₄.gens.push (.fresh (.compStart (.GeneratorExp elt [⟨tg, iter, [], 0⟩] scope gpos) 0 (.ref it) .none (genEnv scope (cloFrom X.env.cells scope.names []) s₄.heap.objs.size code bi X.env))),
            toks := s₄.toks + 1 + 1 + 1,
            heap := h'.push { cls := .type "generator", data := .fields #[.int s₄.gens.size 0, .str "<genexpr>" (s₄.toks + 1), .str (X.env.qual ++ "<genexpr>") (s₄.toks + 1 + 1)] } }) X.xe { s2 with heap := h3, toks := tk } := by
    intro code h3 tk ps' hx hsz hP3 hmore ht3
    obtain ⟨bm, ob, e1, e2, e3, e4, e5, e6, e7, e8⟩ := TB.bm
    have keep3 : ∀ b u, b ≠ P → s2.heap.get? b = some u → h3.get? b = some u := fun b u hb e => hx b u hb e
    refine wpAny_builtinsFor (m := X.mg) (by rw [I2.ok.glob]; exact (I2.mod.glob.keeps I2.bk).extBut hx TB.gP) e1 e2 (keep3 _ _ e4 (I2.bk _ _ e5)) e6 e7 e8 ?_
    intro h' hn' hs'
    obtain ⟨more, em⟩ := hmore
    have J3 := inv_tab (more := more) (h' := h3) (g' := s2.gens) (d' := s2.drawn) (t' := tk) I2 hP keep3 (by rw [← em]; exact hP3) I2.bare
    have nP : ∀ b ∈ fp, b ≠ P := fun b hb z => by
      have q := (f2 b hb).1
      rw [z, hP] at q
      cases q
    have hsz' : h'.objs.size = h3.objs.size + 1 := by rw [hs'.1, Heap.size_push]
    have keep' : ∀ b o, h3.get? b = some o → h'.get? b = some o := fun b o e => hs'.extBut b o (Nat.ne_of_lt (Heap.lt_size e)) (Heap.get?_push_of_some _ e)
    obtain ⟨W, n₀, w0, turn, stop⟩ := hw (upd H2 P (.tbl (ps ++ more))) ⟨⟨ps ++ more, upd_same, by rw [← em]; exact ht3⟩, fun b hb => upd_ne hb⟩
    refine Calls.spliced_nil ?_
    refine any_run (s := { s2 with heap := h3, toks := tk }) (N' := N') (σ' := wipe σ) (itv := .ref it) (g := s2.gens.size) hr J3 L T (T.keep _ _ _ st2 fun b hb o e => keep3 b o (nP b hb) e) (fun b hb => ⟨by rw [upd_ne (nP b hb)]; exact (f2 b hb).1, (f2 b hb).2⟩)
      (hl σ I.len) (hσ σ) (hn'.push _) (fun b o e => Heap.get?_push_of_some _ (keep' b o e)) rfl (AllBare.push I2.bare rfl) (by show h3.objs.size < h'.objs.size; omega) ⟨_, _, _, Heap.get?_push_size _ rfl, rfl, rfl, rfl⟩ (Array.getElem?_push_size ..)
      (fun A hA hf => hel A _ _ code fp hA hf) w0 turn stop
  refine ⟨I2.nolimit, ?_⟩
  cases hf : codeAmong gpos ps.toList with
  | none =>
    refine wpAny_genexprCodeX hcode (cd.code hPs ht) (cd.tab hPs) hf fun c' h' tk hx hge hlt hco' _ htab' _ => ?_
    obtain ⟨o1, vs, f1, tf, fl, tg', inF, tx, tt, op, _, _, _, _, _, _, _, _, _, htr, _⟩ := hco'
    exact cont _ h' tk _ hx (Nat.le_trans hge (Nat.le_of_lt hlt)) htab'.2 ⟨_, rfl⟩ htr
  | some cv =>
    refine wpAny_genexprCode_hit hcode (cd.code hPs ht) hf ?_
    exact cont cv s2.heap s2.toks ps (Heap.ExtBut.refl _ _) (Nat.le_refl _) hPs ⟨#[], by simp⟩ ht
end
end Mz

set_option Elab.async false
set_option linter.all false
set_option maxRecDepth 100000
set_option maxHeartbeats 4000000
/-! any(elt for tg in iter), the element anything -/
namespace Mz
open PySem PySem.Spec PyProof.Rows L2 GenW GxR
section
variable {X : Cx} {pins : List (Addr × Obj)} {σ : L2.St} {H : Hp} {s s5 : Shared}
theorem all_run {elt iter tg : Expr} {scope : Scope} {x : Str} {gpos : Pos} {code itv : Value} {N' : List Str} {fp : List Addr} {σ' : L2.St} {a it : Addr} {g k n₀ : Nat} {tn : Nat → Heap → Prop} {J : It} {gt : TG} {te : TE} {W : Nat → L2.St → Hp → Prop} {Q : VK} {E : Value → Shared → Prop}
    (hr : Room (k + 3) X.A) (I : Inv X pins σ H s) (L : GenF X.env.scope scope x) (T : Turn X.prog X.w X.K tg J fp it tn) (st : tn 0 s.heap) (f2 : ∀ b ∈ fp, FpOk X pins H b)
    (hl : σ'.length = N'.length) (hσ : ∀ (i : Nat) (y : Str) (v : V), N'[i]? = some y → σ'[i]? = some (some v) → (scope.names.lookup y = some .local → False) ∧ (scope.names.lookup y = some .free → ∃ j : Nat, X.N[j]? = some y ∧ σ[j]? = some (some v)))
    (hns : s5.heap.Ns s.heap.objs.size fun y => if y = ".0" then some itv else none) (kp : ∀ b o, s.heap.get? b = some o → s5.heap.get? b = some o) (hos : s5.os = s.os) (hb : AllBare s5.gens)
    (ha : s.heap.objs.size < a) (hg : s5.heap.IsGen a g) (hgs : s5.gens[g]? = some (.fresh (.compStart (.GeneratorExp elt [⟨tg, iter, [], 0⟩] scope gpos) 0 (.ref it) .none (gEnv X scope s.heap.objs.size code))))
    (hel : ∀ A : Around, Room k A → A.frames = some (gEnv X scope s.heap.objs.size code :: X.stack) → PG (genCx X A scope s H code N' fp) tg gt ∧ PE (genCx X A scope s H code N' fp) elt te)
    (w0 : W 0 σ' H) (turn : ∀ i σ1 H1, i < n₀ → W i σ1 H1 → J.go i H1 ∧ ∀ v H2, J.yld i H1 v H2 → gt v σ1 H2 fun σ2 H3 => te σ2 H3 fun r H4 => ∃ b, r = .bl b ∧ (b = false → Q (.bl false) H4) ∧ (b = true → W (i + 1) σ2 H4))
    (stop : ∀ σ1 H1, W n₀ σ1 H1 → J.stop n₀ H1 ∧ Q (.bl true) H1) :
    wpAny (model X.prog X.w) X.A (call (.builtin "all") [.ref a]) (EP X pins σ Q) E s5 := by
  obtain ⟨go, nm, qn, ho, hc, hdd, hsl⟩ := id hg
  have hrl : Room k (X.A.in1.in1.over (.compLoop (.GeneratorExp elt [⟨tg, iter, [], 0⟩] scope gpos) 0 (.ref it) .none (gEnv X scope s.heap.objs.size code)) []) :=
    ⟨hr.hd, by have := hr.dp; show X.A.depth + 1 + 3 * k + 5 < _; omega, by have := hr.un; show X.A.units + 1 + 1 + 3 + 16 * k + 200 < _; omega⟩
  have hfl : (X.A.in1.in1.over (.compLoop (.GeneratorExp elt [⟨tg, iter, [], 0⟩] scope gpos) 0 (.ref it) .none (gEnv X scope s.heap.objs.size code)) []).frames = some (gEnv X scope s.heap.objs.size code :: X.stack) := by
    show pushEnvs [gEnv X scope s.heap.objs.size code] X.A.frames = _
    rw [I.ok.frames]
    rfl
  obtain ⟨hpg, hpe⟩ := hel _ hrl hfl
  have hlt : ∀ b ∈ fp, b < s.heap.objs.size := fun b hb => by
    obtain ⟨o, e, _⟩ := T.obj _ _ st b hb
    exact Heap.lt_size e
  have I0 := gen_start (N' := N') (fp := fp) (σ' := σ') (it := itv) (code := code) (fun b hb => ⟨f2 b hb, hlt b hb⟩) I L hrl.hd hfl hl hσ hns kp hos hb
  have I5 := I0.pins_of (pins' := [(a, go)]) fun p hp => by
    rw [List.mem_singleton.mp hp]
    refine ⟨ho, I.hok.fresh (Nat.le_of_lt ha), Nat.ne_of_gt ha, fun hm => ?_, fun v q => by rw [show go.data = _ from hdd] at q; cases q⟩
    rcases List.mem_cons.mp (I.stkSub a hm) with q | q
    · have h1 := I.lt
      rw [← q] at h1
      exact Nat.lt_irrefl _ (Nat.lt_trans h1 ha)
    · exact I.nofs (Nat.le_of_lt ha) q
  have stat : ∀ {H1 : Hp}, (∀ b ∈ fp, H1 b = none) → ∀ b ∈ fp, FpOk (genCx X (X.A.in1.in1.over (.compLoop (.GeneratorExp elt [⟨tg, iter, [], 0⟩] scope gpos) 0 (.ref it) .none (gEnv X scope s.heap.objs.size code)) []) scope s H code N' fp) [(a, go)] H1 b :=
    fun {H1} hn b hb => ⟨hn b hb, (I0.ok.exf b hb).1, I0.ok.exfs b hb, .inl hb, (I0.ok.exf b hb).2, fun p hp => by
      have hp : p ∈ ([] : List (Addr × Obj)) ++ [(a, go)] := hp
      rw [List.nil_append, List.mem_singleton] at hp
      rw [hp]
      exact Nat.ne_of_gt (Nat.lt_trans (hlt b hb) ha)⟩
  have regen : ∀ {σ1 : L2.St} {H1 : Hp} {s' : Shared} (G : Array GenState), AllBare G → Inv (genCx X (X.A.in1.in1.over (.compLoop (.GeneratorExp elt [⟨tg, iter, [], 0⟩] scope gpos) 0 (.ref it) .none (gEnv X scope s.heap.objs.size code)) []) scope s H code N' fp) [(a, go)] σ1 H1 s' →
      Inv (genCx X (X.A.in1.in1.over (.compLoop (.GeneratorExp elt [⟨tg, iter, [], 0⟩] scope gpos) 0 (.ref it) .none (gEnv X scope s.heap.objs.size code)) []) scope s H code N' fp) [(a, go)] σ1 H1 { s' with gens := G } :=
    fun {σ1 H1 s'} G hG K => K.call' (ch := []) (s' := { s' with gens := G }) rfl Un.refl K.hok hG fun b z => absurd z (by simp)
  have back : ∀ {σ1 : L2.St} {H1 : Hp} {s' : Shared} (G : Array GenState) (h' : Heap), AllBare G → (∀ b o, s'.heap.get? b = some o → h'.get? b = some o) → Inv (genCx X (X.A.in1.in1.over (.compLoop (.GeneratorExp elt [⟨tg, iter, [], 0⟩] scope gpos) 0 (.ref it) .none (gEnv X scope s.heap.objs.size code)) []) scope s H code N' fp) [(a, go)] σ1 H1 s' →
      Inv X pins σ H1 { s' with gens := G, heap := h' } := fun {σ1 H1 s'} G h' hG hk K =>
    I.call' (ch := fp) (s' := { s' with gens := G, heap := h' }) K.os (Un.trans K.base (Un.kept hk)) (K.hok.kept hk) hG fun b hb => ⟨(f2 b hb).2.2.2.1, (f2 b hb).2.1, (f2 b hb).2.2.2.2.1, (f2 b hb).2.2.2.2.2⟩
  have gen : ∀ {σ1 : L2.St} {H1 : Hp} {s' : Shared}, Inv (genCx X (X.A.in1.in1.over (.compLoop (.GeneratorExp elt [⟨tg, iter, [], 0⟩] scope gpos) 0 (.ref it) .none (gEnv X scope s.heap.objs.size code)) []) scope s H code N' fp) [(a, go)] σ1 H1 s' → s'.heap.IsGen a g :=
    fun {σ1 H1 s'} K => ⟨go, nm, qn, (K.pin (a, go) (List.mem_append_right _ (List.mem_singleton.mpr rfl))).1, hc, hdd, hsl⟩
  refine call_all_gen (m := n₀) (Qt := fun b s' => EP X pins σ Q (.bool b) s') hr.hd hr.depth hg I0.nolimit hgs ⟨rfl, ?_⟩ (fun b s' h => h)
  refine seg_genStartI (n₀ := n₀)
    (fun i s' => ∃ σ1 H1, Inv (genCx X (X.A.in1.in1.over (.compLoop (.GeneratorExp elt [⟨tg, iter, [], 0⟩] scope gpos) 0 (.ref it) .none (gEnv X scope s.heap.objs.size code)) []) scope s H code N' fp) [(a, go)] σ1 H1 s' ∧ tn i s'.heap ∧ (∀ b ∈ fp, H1 b = none) ∧ W i σ1 H1)
    (fun i y s' => ∃ σ1 H1 b, y = .bool b ∧ Inv (genCx X (X.A.in1.in1.over (.compLoop (.GeneratorExp elt [⟨tg, iter, [], 0⟩] scope gpos) 0 (.ref it) .none (gEnv X scope s.heap.objs.size code)) []) scope s H code N' fp) [(a, go)] σ1 H1 s' ∧ tn (i + 1) s'.heap ∧ (∀ b ∈ fp, H1 b = none) ∧
      (b = false → Q (.bl false) H1) ∧ (b = true → W (i + 1) σ1 H1))
    (fun s' => ∃ σ1 H1, Inv (genCx X (X.A.in1.in1.over (.compLoop (.GeneratorExp elt [⟨tg, iter, [], 0⟩] scope gpos) 0 (.ref it) .none (gEnv X scope s.heap.objs.size code)) []) scope s H code N' fp) [(a, go)] σ1 H1 s' ∧ Q (.bl true) H1)
    L.co ?_ ?_ ?_ ?_ ?_ _ _ ?_
  · rintro s1 ⟨σ1, H1, K, t1, n1, w1⟩
    obtain ⟨q1, q2⟩ := stop σ1 H1 w1
    refine wpAny_mono (T.done (genCx X (X.A.in1.in1.over (.compLoop (.GeneratorExp elt [⟨tg, iter, [], 0⟩] scope gpos) 0 (.ref it) .none (gEnv X scope s.heap.objs.size code)) []) scope s H code N' fp) rfl rfl rfl rfl n₀ _ s1 σ1 H1 _ K (stat n1) t1 q1) (fun r s2 h2 => ?_) fun _ _ e => e
    exact ⟨h2.1, σ1, H1, h2.2, q2⟩
  · rintro i s1 hi ⟨σ1, H1, K, t1, n1, w1⟩
    obtain ⟨q1, q2⟩ := turn i σ1 H1 hi w1
    refine wpAny_mono (T.item (genCx X (X.A.in1.in1.over (.compLoop (.GeneratorExp elt [⟨tg, iter, [], 0⟩] scope gpos) 0 (.ref it) .none (gEnv X scope s.heap.objs.size code)) []) scope s H code N' fp) rfl rfl rfl rfl i _ s1 σ1 H1 _ K (stat n1) t1 q1) (fun r s2 h2 => ?_) fun _ _ e => e
    obtain ⟨u, hu, h2⟩ := h2
    refine ⟨u, hu, wpAny_mono h2 (fun _ s3 h3 => ?_) fun _ _ e => e⟩
    obtain ⟨v, H3, K3, r3, y3, t3, n3⟩ := h3
    have K3' := K3.pinned (stat n3) (T.obj _ _ t3)
    refine wpAny_mono (hpg.run _ s3 σ1 H3 v u _ K3' r3 (q2 v H3 y3)) (fun _ s4 h4 => ?_) fun _ _ e => e
    obtain ⟨σ4, H4, K4, q4⟩ := h4
    refine wpAny_mono (hpe.run _ s4 σ4 H4 _ K4 q4) (fun y s6 h6 => ?_) fun _ _ e => e
    obtain ⟨v6, H6, K6, r6, b, e6, q6⟩ := h6
    subst e6
    obtain rfl : y = .bool b := r6
    refine ⟨σ4, H6, b, rfl, K6.unpinned, T.keep _ _ _ t3 fun b hb o e => (K6.pin (b, o) (List.mem_append_right _ (List.mem_append_right _ (mem_pinsAt hb e)))).1, fun b hb => ?_, q6⟩
    obtain ⟨o, e, d⟩ := T.obj _ _ t3 b hb
    exact (K6.pin (b, o) (List.mem_append_right _ (List.mem_append_right _ (mem_pinsAt hb e)))).2.1
  · rintro s1 ⟨σ1, H1, K, t1, n1, w1⟩ Q' E' hq
    exact T.self _ 0 s1 Q' E' t1 hq
  · rintro n s₀ s1 ⟨σ1, H1, K, q⟩
    exact .inl ⟨.inr rfl, K.bare, fun G h' hG hk => ⟨.bl true, H1, back G h' hG hk K, rfl, q⟩⟩
  · rintro n s₀ i y s1 hi ⟨σ1, H1, b, rfl, K, t1, n1, q1, q2⟩ kap hk
    refine ⟨gen K, K.nolimit, K.bare, ?_⟩
    cases b with
    | false => exact .inl ⟨rfl, fun G hG => ⟨.bl false, H1, back G s1.heap hG (fun _ _ e => e) K, rfl, q1 rfl⟩⟩
    | true => exact .inr ⟨rfl, fun G hG => hk _ ⟨σ1, H1, regen G hG K, t1, n1, q2 rfl⟩⟩
  · refine ⟨σ', H, regen _ (allBare_setGen hb rfl) I5, T.keep _ _ _ st fun b hb o e => kp b o e, fun b hb => (f2 b hb).1, w0⟩
end
end Mz

set_option Elab.async false
set_option linter.all false
set_option maxRecDepth 100000
set_option maxHeartbeats 4000000
/-! all(elt for tg in iter): the expression -/
namespace Mz
open PySem PySem.Spec PyProof.Rows L2 GenW GxR
/-- J: what is walked; P: the def's table, it may have grown when the code object is made; W: the invariant by the turn -/
def tAllG (P : Addr) (wipe : L2.St → L2.St) (wi : TI) (gt : TG) (te : TE) : TE := fun σ H Q => wi σ H fun J H1 => TabG H1 P ∧ ∀ H2, Tabbed P H1 H2 → ∃ (W : Nat → L2.St → Hp → Prop) (n₀ : Nat), W 0 (wipe σ) H2 ∧
  (∀ i σ1 H1, i < n₀ → W i σ1 H1 → J.go i H1 ∧ ∀ v H2, J.yld i H1 v H2 → gt v σ1 H2 fun σ2 H3 => te σ2 H3 fun r H4 => ∃ b, r = .bl b ∧ (b = false → Q (.bl false) H4) ∧ (b = true → W (i + 1) σ2 H4)) ∧
  ∀ σ1 H1, W n₀ σ1 H1 → J.stop n₀ H1 ∧ Q (.bl true) H1
section
variable {X : Cx}
theorem pe_allG {c P : Addr} {elt iter tg : Expr} {scope : Scope} {x : Str} {p pos gpos : Pos} {k : Nat} {wi : TI} {gt : TG} {te : TE} (N' : List Str) (wipe : L2.St → L2.St)
    (hr : Room (k + 3) X.A) (hg : Gl X "all") (hm : X.mg "all" = none) (hbo : bootBuiltins "all" = some (.builtin "all")) (TB : TabB X.base X.mg c P) (hcode : X.env.code = .ref c) (L : GenF X.env.scope scope x) (hi : PI X tg iter wi)
    (hl : ∀ σ : L2.St, σ.length = X.N.length → (wipe σ).length = N'.length)
    (hσ : ∀ (σ : L2.St) (i : Nat) (y : Str) (v : V), N'[i]? = some y → (wipe σ)[i]? = some (some v) → (scope.names.lookup y = some .local → False) ∧ (scope.names.lookup y = some .free → ∃ j : Nat, X.N[j]? = some y ∧ σ[j]? = some (some v)))
    (hel : ∀ (A : Around) (s : Shared) (H : Hp) (code : Value) (fp : List Addr), Room k A → A.frames = some (gEnv X scope s.heap.objs.size code :: X.stack) → PG (genCx X A scope s H code N' fp) tg gt ∧ PE (genCx X A scope s H code N' fp) elt te)
    (hs : ∀ v, genFold iter X.env v = pure v)
    (he : starEach [.GeneratorExp elt [⟨tg, iter, [], 0⟩] scope gpos] X.env = (false, eval (.GeneratorExp elt [⟨tg, iter, [], 0⟩] scope gpos) X.env) :: starEach [] X.env := by rfl) :
    PE X (.Call (.Name "all" p) [.GeneratorExp elt [⟨tg, iter, [], 0⟩] scope gpos] [] pos) (tAllG P wipe wi gt te) := by
  refine ⟨fun pins s σ H Q I h => ?_⟩
  refine wpAny_Call_Name_kw (ld_blt I hg hm hbo ?_)
  refine PyProof.Rows.callWith_builtin1 ?_ he (by rfl)
  rw [he]
  show wpAny _ _ (spliced ((false, eval (.GeneratorExp elt [⟨tg, iter, [], 0⟩] scope gpos) X.env) :: backTo pos (starEach [] X.env))) _ _ s
  refine Calls.spliced_cons (wpAny_GeneratorExp_make L.co (closure_ok (L.has I.ok)) L.cell L.dot L.kind hr.depth (thn (hi.run pins s σ H _ I h) fun xv s1 h1 => thn h1 fun itv s2 h2 => ?_) hs)
  obtain ⟨it, fp, tn, J, H2, rfl, I2, T, st2, f2, ⟨ps, hP, ht⟩, hw⟩ := h2
  have hPs : s2.heap.get? P = some { cls := .none, data := .fields ps } := I2.hok P _ hP
  have hPlt : P < s2.heap.objs.size := Heap.lt_size hPs
  have cd : PySem.W.CodeHd s2.heap c P := TB.code.keeps fun b u e => I2.bk b u e
  have cont : ∀ (code : Value) (h3 : Heap) (tk : Nat) (ps' : Array Value), Heap.ExtBut P s2.heap h3 → s2.heap.objs.size ≤ h3.objs.size → h3.get? P = some { cls := .none, data := .fields ps' } → (∃ more, ps' = ps ++ more) → TriplesOk ps'.toList →
      wpAny (model X.prog X.w) X.A (builtinsFor X.env.globals X.env.builtins) (fun bi s₄ =>
        ∀ h', h'.Ns s₄.heap.objs.size (fun y => if y = ".0" then some (.ref it) else none) → Heap.SameBut s₄.heap.objs.size (s₄.heap.push { cls := .type "frame", data := .dict #[] }) h' →
          wpAny (model X.prog X.w) X.A (spliced (backTo pos (starEach [] X.env))) (fun vs s' => wpAny (model X.prog X.w) X.A (call (.builtin "all") (.ref h'.objs.size :: vs)) (EP X pins σ Q) X.xe s') X.xe { s₄ with
            gens := s₄.gens.push (.fresh (.compStart (.GeneratorExp elt [⟨tg, iter, [], 0⟩] scope gpos) 0 (.ref it) .none (genEnv scope (cloFrom X.env.cells scope.names []) s₄.heap.objs.size code bi X.env))),
            toks := s₄.toks + 1 + 1 + 1,
            heap := h'.push { cls := .type "generator", data := .fields #[.int s₄.gens.size 0, .str "<genexpr>" (s₄.toks + 1), .str (X.env.qual ++ "<genexpr>") (s₄.toks + 1 + 1)] } }) X.xe { s2 with heap := h3, toks := tk } := by
    intro code h3 tk ps' hx hsz hP3 hmore ht3
    obtain ⟨bm, ob, e1, e2, e3, e4, e5, e6, e7, e8⟩ := TB.bm
    have keep3 : ∀ b u, b ≠ P → s2.heap.get? b = some u → h3.get? b = some u := fun b u hb e => hx b u hb e
    refine wpAny_builtinsFor (m := X.mg) (by rw [I2.ok.glob]; exact (I2.mod.glob.keeps I2.bk).extBut hx TB.gP) e1 e2 (keep3 _ _ e4 (I2.bk _ _ e5)) e6 e7 e8 ?_
    intro h' hn' hs'
    obtain ⟨more, em⟩ := hmore
    have J3 := inv_tab (more := more) (h' := h3) (g' := s2.gens) (d' := s2.drawn) (t' := tk) I2 hP keep3 (by rw [← em]; exact hP3) I2.bare
    have nP : ∀ b ∈ fp, b ≠ P := fun b hb z => by
      have q := (f2 b hb).1
      rw [z, hP] at q
      cases q
    have hsz' : h'.objs.size = h3.objs.size + 1 := by rw [hs'.1, Heap.size_push]
    have keep' : ∀ b o, h3.get? b = some o → h'.get? b = some o := fun b o e => hs'.extBut b o (Nat.ne_of_lt (Heap.lt_size e)) (Heap.get?_push_of_some _ e)
    obtain ⟨W, n₀, w0, turn, stop⟩ := hw (upd H2 P (.tbl (ps ++ more))) ⟨⟨ps ++ more, upd_same, by rw [← em]; exact ht3⟩, fun b hb => upd_ne hb⟩
    refine Calls.spliced_nil ?_
    refine all_run (s := { s2 with heap := h3, toks := tk }) (N' := N') (σ' := wipe σ) (itv := .ref it) (g := s2.gens.size) hr J3 L T (T.keep _ _ _ st2 fun b hb o e => keep3 b o (nP b hb) e) (fun b hb => ⟨by rw [upd_ne (nP b hb)]; exact (f2 b hb).1, (f2 b hb).2⟩)
      (hl σ I.len) (hσ σ) (hn'.push _) (fun b o e => Heap.get?_push_of_some _ (keep' b o e)) rfl (AllBare.push I2.bare rfl) (by show h3.objs.size < h'.objs.size; omega) ⟨_, _, _, Heap.get?_push_size _ rfl, rfl, rfl, rfl⟩ (Array.getElem?_push_size ..)
      (fun A hA hf => hel A _ _ code fp hA hf) w0 turn stop
  refine ⟨I2.nolimit, ?_⟩
  cases hf : codeAmong gpos ps.toList with
  | none =>
    refine wpAny_genexprCodeX hcode (cd.code hPs ht) (cd.tab hPs) hf fun c' h' tk hx hge hlt hco' _ htab' _ => ?_
    obtain ⟨o1, vs, f1, tf, fl, tg', inF, tx, tt, op, _, _, _, _, _, _, _, _, _, htr, _⟩ := hco'
    exact cont _ h' tk _ hx (Nat.le_trans hge (Nat.le_of_lt hlt)) htab'.2 ⟨_, rfl⟩ htr
  | some cv =>
    refine wpAny_genexprCode_hit hcode (cd.code hPs ht) hf ?_
    exact cont cv s2.heap s2.toks ps (Heap.ExtBut.refl _ _) (Nat.le_refl _) hPs ⟨#[], by simp⟩ ht
end
end Mz

set_option Elab.async false
set_option linter.all false
set_option maxRecDepth 100000
set_option maxHeartbeats 4000000
namespace K11
open PySem PySem.Spec PyProof.Rows L2 Mz
/-- a def that errors leave, its code object known -/
theorem okNC {P : Program} {w : World} {K : PySem.W.Frag} {mg : Str → Option Value} {base : Heap} {x qual : Str} {st : Stmt} {f : Addr} {fd : FuncData} {N ps : List Str} {k : Nat} {sp : Sp} (F : Fun K x qual st f fd) (S : FnScope N ps (defScope st)) (len : ∀ vs H Q E, sp vs H Q E → vs.length = ps.length)
    (hbody : ∀ (A : Around) (outer : List Env) (s : Shared) (H : Hp) (vs : List V) (Q : VK) (E : XK), Room k (A.deeper (envOfC qual (defScope st) s.heap.objs.size f fd.code)) → sp vs H Q E →
      ∃ t, PSs (cxOf (L2N.CX P w) P w K mg base N qual (defScope st) f fd.code A outer s H E) (defBody st) t ∧ t { nx := fun _ H' => Q .non H', rt := Q } (start N vs) H) : FnOk P w K mg base (L2N.CX P w) (k + 1) f fd ps sp := by
  obtain ⟨oc, od, kV, doc, pm, an, cdv, ct, osl, rfl, lk, hcd⟩ := F.ex
  exact fn_of lk hcd S len fun A outer s H vs Q E hr hsp => hbody A outer s H vs Q E hr hsp
/-- the names inside: all but the wiped slot are as outside -/
theorem wipeOk {N : List Str} {scope : Scope} {j : Nat} (y0 : Str) (NN : List Str) (hN : N = NN) (hj : NN[j]? = some y0) (hl : ∀ i y, NN[i]? = some y → i ≠ j → scope.names.lookup y ≠ some .local) (_hd : True) :
    ∀ (σ : L2.St) (i : Nat) (y : Str) (v : V), NN[i]? = some y → (σ.set j none)[i]? = some (some v) → (scope.names.lookup y = some .local → False) ∧ (scope.names.lookup y = some .free → ∃ j : Nat, N[j]? = some y ∧ σ[j]? = some (some v)) := by
  intro σ i y v h1 h2
  have hij : i ≠ j := fun z => by
    subst z
    rw [List.getElem?_set] at h2
    simp only [if_true] at h2
    split at h2 <;> cases h2
  rw [List.getElem?_set_ne (Ne.symm hij)] at h2
  exact ⟨hl i y h1 hij, fun _ => ⟨i, by rw [hN]; exact h1, h2⟩⟩
theorem lookAll {NN : List Str} {scope : Scope} {j : Nat} (h : (NN.zipIdx.all fun p => p.2 == j || !decide (scope.names.lookup p.1 = some NameKind.local)) = true) : ∀ i y, NN[i]? = some y → i ≠ j → scope.names.lookup y ≠ some .local := by
  intro i y hi hij
  rw [List.all_eq_true] at h
  have hm : (y, i) ∈ NN.zipIdx := by
    rw [List.mem_zipIdx_iff_getElem?]
    exact hi
  have := h _ hm
  simp only [Bool.or_eq_true, beq_iff_eq, Bool.not_eq_true', decide_eq_false_iff_not] at this
  exact this.resolve_left hij
/-- a statement run with a thing unlocked that stands locked -/
def tFree (H0 : Hp) (t : TS) : TS := fun D σ H => ∃ d od u, H d = some (.frz od u) ∧ (∀ o' u', H0 d ≠ some (.frz o' u')) ∧ t D σ (upd H d u)
theorem ps_free {X : Cx} {st : Stmt} {t : TS} (h : PS X st t) : PS X st (tFree X.H_0 t) := ⟨fun pins s σ H D I ⟨_, _, _, e, hn, q⟩ => h.run pins s σ _ D (I.unlock e hn) q⟩
theorem Kp.set {Pt : Addr} {H H' : Hp} {p : Addr} {o : HO} (k : Kp Pt H H') (t : GxR.TabG H Pt) (hp : H p = none) : Kp Pt H (upd H' p o) := by
  have ne : Pt ≠ p := fun z => by
    obtain ⟨ps, q, r⟩ := t
    rw [z, hp] at q
    cases q
  refine ⟨?_, fun b u n e => ?_⟩
  · obtain ⟨ps, q, r⟩ := k.tab
    exact ⟨ps, (upd_ne ne).trans q, r⟩
  · rw [upd_ne fun z => by rw [z, hp] at e; cases e]
    exact k.keep b u n e
theorem tab_lock {Pt d : Addr} {H : Hp} {o : HO} (t : GxR.TabG H Pt) (hne : d ≠ Pt) : GxR.TabG (upd H d o) Pt := by
  obtain ⟨ps, q, r⟩ := t
  exact ⟨ps, (upd_ne (Ne.symm hne)).trans q, r⟩
theorem unlock_kp {Pt d : Addr} {H H3 : Hp} {u : HO} {o : Obj} (hne : d ≠ Pt) (hd : H d = some u) (k : Kp Pt (upd H d (.frz o u)) H3) : Kp Pt H (upd H3 d u) := by
  refine ⟨tab_lock k.tab hne, fun b v n e => ?_⟩
  by_cases bd : b = d
  · rw [bd] at e ⊢
    rw [upd_same, ← hd]
    exact e
  · rw [upd_ne bd]
    exact k.keep _ _ n ((upd_ne bd).trans e)
theorem TupL.kp {Pt : Addr} {H H' : Hp} {ts : List Addr} {ws : List (List Int)} (h : TupL H ts ws) (t : GxR.TabG H Pt) (k : Kp Pt H H') : TupL H' ts ws := ⟨h.1, fun i a w p q => Kp.tup t k (h.2 i a w p q)⟩
/-- where a row stands first -/
def ixI (rows : List (List Int)) (r : List Int) : Int := (rows.idxOf r : Nat)
def madeOf (kn : List (List Int × Int)) (L : Nat) (os : Int) (S T : List (List Int)) : Mach :=
  ⟨L, os, S.map fun w => (List.range L).map fun a : Nat => ixI (S.map (rowOf kn T)) (rowOf kn T (w ++ [(a : Int)])), S.map fun w => (toldOf kn w).getD 0⟩
def Closed (kn : List (List Int × Int)) (L : Nat) (S T : List (List Int)) : Prop := ∀ w ∈ S, ∀ a < L, rowOf kn T (w ++ [(a : Int)]) ∈ S.map (rowOf kn T)
theorem more_in {L : Nat} {S : List (List Int)} {w : List Int} {a : Nat} (h : w ∈ S) (ha : a < L) : w ++ [(a : Int)] ∈ rowsOf L S := by
  unfold rowsOf
  by_cases c : w ++ [(a : Int)] ∈ S
  · exact List.mem_append_left _ c
  · refine List.mem_append_right _ (List.mem_filter.mpr ⟨List.mem_flatMap.mpr ⟨w, h, ?_⟩, decide_eq_true c⟩)
    exact List.mem_map.mpr ⟨a, List.mem_range.mpr ha, rfl⟩
theorem told_push {st : List (List Int × Int)} {r x : List Int} {z : Int} (h : toldOf st r = none) : toldOf (st ++ [(r, z)]) x = if r = x then some z else toldOf st x := by
  unfold toldOf at *
  rw [List.find?_append]
  by_cases c : r = x
  · subst c
    rw [if_pos rfl]
    cases e : st.find? (fun x => decide (x.1 = r)) with
    | some v => rw [e] at h; cases h
    | none => simp
  · rw [if_neg c]
    cases e : st.find? (fun y => decide (y.1 = x)) with
    | some v => simp
    | none => simp [c]
theorem kvsO_push {st : List (List Int × Int)} {r : List Int} {z : Int} (h : toldOf st r = none) : putK (kvsO st) (keyW r) (.int z) = kvsO (st ++ [(r, z)]) := by
  rw [putK_new _ (by rw [valO, h]; rfl)]
  unfold kvsO
  rw [List.map_append]
  rfl
/-- what stands first, as a dict's value -/
def Firsts (st : List (List Int × Int)) (rows : List (List Int)) : Prop := ∀ r, toldOf st r = if r ∈ rows then some (ixI rows r) else none
theorem Firsts.old {st : List (List Int × Int)} {rows : List (List Int)} {r : List Int} (h : Firsts st rows) (hr : r ∈ rows) : Firsts st (rows ++ [r]) := fun x => by
  rw [h x]
  unfold ixI
  by_cases c : x ∈ rows
  · rw [if_pos c, if_pos (List.mem_append_left _ c), List.idxOf_append, if_pos c]
  · rw [if_neg c, if_neg fun z => ?_]
    rcases List.mem_append.mp z with z | z
    · exact c z
    · rw [List.mem_singleton.mp z] at c
      exact c hr
theorem Firsts.new {st : List (List Int × Int)} {rows : List (List Int)} {r : List Int} (h : Firsts st rows) (hr : r ∉ rows) : Firsts (st ++ [(r, (rows.length : Int))]) (rows ++ [r]) := fun x => by
  rw [told_push (by rw [h r, if_neg hr])]
  unfold ixI
  by_cases c : r = x
  · subst c
    rw [if_pos rfl, if_pos (List.mem_append_right _ (List.mem_singleton.mpr rfl)), List.idxOf_append, if_neg hr]
    simp
  · rw [if_neg c, h x]
    by_cases d : x ∈ rows
    · rw [if_pos d, if_pos (List.mem_append_left _ d), List.idxOf_append, if_pos d]
      rfl
    · rw [if_neg d, if_neg fun z => ?_]
      rcases List.mem_append.mp z with z | z
      · exact d z
      · exact c (List.mem_singleton.mp z).symm
def spMachine (A : Ads) (Pt : Addr) : Sp := fun vs H Q E => ∃ (p sd td kd : Addr) (L : Nat) (os : Int) (S T : List (List Int)) (kn : List (List Int × Int)), vs = [.ref p, .int os, .ref kd] ∧ TabAt A.a_Table H p sd td (L : Int) S T ∧ Small L S T ∧ H kd = some (.dT (kvsO kn)) ∧ kd ≠ sd ∧ kd ≠ td ∧ sd ≠ td ∧ Full kn L S T ∧ (∀ w ∈ S, toldOf kn w ≠ none) ∧ GxR.TabG H Pt ∧
  (Closed kn L S T → ∀ (H' : Hp) (m : Addr), Kp Pt H H' → MA H' m (madeOf kn L os S T) → Q (.ref m) H') ∧ (¬ Closed kn L S T → ∀ H' : Hp, Kp Pt H H' → E (.ref A.a_Missing) none H')
section
variable {P : Program} {w : World} {K : PySem.W.Frag} {mg : Str → Option Value} {base : Heap} {A : Ads} {c Pt : Addr}
theorem ok_machine (T : Txt K mg A) (TB : GxR.TabB base mg c Pt) (hc : A.d_Table_machine.code = .ref c) : FnOk P w K mg base (L2N.CX P w) 5 A.a_Table_machine A.d_Table_machine ["self", "outs", "known"] (spMachine A Pt) := by
  have G_Table_outputs : FnOk P w K mg base CX0 1 A.a_Table_outputs A.d_Table_outputs ["self", "row", "known"] (spOutputs A) := ok_outputs T
  refine okNC T.F_Table_machine sc_Table_machine (fun vs H Q E h => ?_) (fun Ar outer s H vs Q E hr h => ?_)
  · obtain ⟨_, _, _, _, _, _, _, _, _, rfl, _⟩ := h
    rfl
  · have hr_Table_outputs : Room 1 _ := hr.mono (by decide)
    refine ⟨_, (pss_cons (ps_set (i := 8) sc_Table_machine.nd rfl (Or.inr rfl) pe_dnewT)
      (pss_cons (ps_lock (ps_for (passes_of rfl) rfl (pi_itemsT (pe_fld (pv 0) rfl)) (pg_tup rfl (pgs_cons (pg_name (i := 3) sc_Table_machine.nd rfl (Or.inr rfl)) (pgs_cons (pg_name (i := 4) sc_Table_machine.nd rfl (Or.inl rfl)) pgs_nil)))
        (pss_one (ps_expr (pe_dsetT (hu_of hr) (pv 8) (pe_meth (pv 0) T.cl_Table T.m_Table_outputs G_Table_outputs hr_Table_outputs T.b_Table_outputs .nil pass0 (pa_cons (pv 3) (pa_cons (pv 2) pa_nil))) (pv 4) ⟨rfl, rfl, rfl, rfl⟩)))))
      (pss_cons (ps_set (i := 5) sc_Table_machine.nd rfl (Or.inl rfl) (pe_lst pa_nil))
      (pss_cons (ps_lock (ps_for (passes_of rfl) rfl (pi_keys (pe_fld (pv 0) rfl)) (pg_name (i := 3) sc_Table_machine.nd rfl (Or.inr rfl))
        (pss_cons (ps_setLc (i := 6) (own := [("letter", 9)]) (g := (gName 9)) (tt := tYes) rfl sc_Table_machine.nd rfl rfl (sw_true rfl rfl rfl (by decide +kernel)) (pi_range1 (by rfl) T.n_range (pa_cons (pe_fld (pv 0) rfl) pa_nil)) (blkOk_by (N := ["self", "outs", "known", "word", "state", "moves", "rows", "outputs", "states", "letter", "row"]) (sc := defScope s_Table_machine) (by decide +kernel)) (fun _ _ _ _ _ => (pg_name (i := 9) sc_Table_machine.nd rfl (Or.inl rfl))) (fun _ _ _ _ _ => pts_nil) (fun _ _ _ _ _ => (pe_meth (pv 0) T.cl_Table T.m_Table_outputs G_Table_outputs hr_Table_outputs T.b_Table_outputs .nil pass0 (pa_cons (pe_op (r := rCatA K) op_catA (pv 3) (pe_tup (pa_cons (pv 9) pa_nil))) (pa_cons (pv 2) pa_nil)))))
          (pss_cons (ps_if (pt_not (pt_val (pe_allG (k := 1) (x := "row") ["self", "outs", "known", "word", "state", "moves", "rows", "outputs", "states", "letter", "row"] (fun σ => σ.set 10 none) hr (by rfl) T.n_all (by decide +kernel) TB hc
        (by exact ⟨rfl, rfl, by decide +kernel, rfl, rfl, fun y hy e => by (simp only [List.mem_cons, List.not_mem_nil, or_false] at hy; rcases hy with rfl | rfl | rfl <;> first | (cases e; done) | exact .inl rfl | exact .inr rfl)⟩) (pi_list (pv 6))
        (fun σ h => by rw [List.length_set]; exact h) (wipeOk "row" _ rfl rfl (lookAll (by decide +kernel)) trivial)
        (fun A' s' H' code fp hA hf => ⟨pg_name (i := 10) sc_Table_machine.nd rfl (Or.inl rfl) (Or.inr rfl),
          (pe_cmp (pc_din (hu_of hA) (pv 10) (pv 8)))⟩)
        (fun _ => rfl)))) (pss_one (ps_free (L2N.ps_raise rfl (L2N.takes_of rfl rfl rfl rfl) (L2N.pmk_own PySem.F.excBase_ValueError T.x_Missing T.g_Missing T.k_Missing (raises_own T.sb_Missing T.ty_Missing) (by rfl))))) pss_nil)
          (pss_one (ps_expr (pe_bm PySem.F.plainAttrs_list PySem.F.slot_list_append PySem.F.type_list_append mt_append (pv 5) (pa_cons (pe_callTy call_tuple_of (by rfl) T.n_tuple (by decide +kernel) (pa_cons (pe_lc (own := [("row", 10)]) (g := (gName 10)) (tt := tYes) rfl sc_Table_machine.nd (pi_list (pv 6)) (blkOk_by (N := ["self", "outs", "known", "word", "state", "moves", "rows", "outputs", "states", "letter", "row"]) (sc := defScope s_Table_machine) (by decide +kernel)) (fun _ _ _ _ _ => (pg_name (i := 10) sc_Table_machine.nd rfl (Or.inl rfl))) (fun _ _ _ _ _ => pts_nil) (fun _ _ _ _ _ => (pe_dget (hu_of hr) (pv 8) (pv 10) (fun _ _ => rfl)))) pa_nil)) pa_nil))))))))
      (pss_cons (ps_lock (ps_setLc (i := 7) (own := [("word", 3)]) (g := (gName 3)) (tt := tYes) rfl sc_Table_machine.nd rfl rfl (sw_true rfl rfl rfl (by decide +kernel)) (pi_keys (pe_fld (pv 0) rfl)) (blkOk_by (N := ["self", "outs", "known", "word", "state", "moves", "rows", "outputs", "states", "letter", "row"]) (sc := defScope s_Table_machine) (by decide +kernel)) (fun _ _ _ _ _ => (pg_name (i := 3) sc_Table_machine.nd rfl (Or.inl rfl))) (fun _ _ _ _ _ => pts_nil) (fun _ _ _ _ _ => (pe_dget (hu_of hr) (pv 2) (pv 3) (fun _ _ => rfl)))))
      (pss_one (ps_ret (pe_tup (pa_cons (pe_fld (pv 0) rfl) (pa_cons (pv 1) (pa_cons (pe_callTy call_tuple_of (by rfl) T.n_tuple (by decide +kernel) (pa_cons (pv 5) pa_nil)) (pa_cons (pe_callTy call_tuple_of (by rfl) T.n_tuple (by decide +kernel) (pa_cons (pv 7) pa_nil)) pa_nil)))))))))))), ?_⟩
    obtain ⟨p, sd, td, kd, L, os, S, Tl, kn, rfl, hs, sm, hk, ks, kt, st, full, own, hT, fin, bad⟩ := h
    obtain ⟨⟨dx, ob⟩, di, dt⟩ := id hs
    have ps : p ≠ sd := fun z => by
      rw [z, di] at ob
      cases ob
    have sP : sd ≠ Pt := tab_ne hT di fun ps z => by cases z
    have pP : p ≠ Pt := tab_ne hT ob fun ps z => by cases z
    have tP : td ≠ Pt := tab_ne hT dt fun ps z => by cases z
    have kP : kd ≠ Pt := tab_ne hT hk fun ps z => by cases z
    intro D hD
    have Ds : D ≠ sd := fun z => by
      rw [z, di] at hD
      cases hD
    refine ⟨sd, _, (upd_ne (Ne.symm Ds)).trans di, trivial, fun od => ?_⟩
    have sB : Same (upd H sd (.frz od (.dT (kvsI S)))) (upd (upd H D (.dT [])) sd (.frz od (.dT (kvsI S)))) := fun b o e => by
      by_cases z : b = sd
      · rw [z] at e ⊢
        rw [upd_same] at e ⊢
        exact e
      · rw [upd_ne z] at e ⊢
        rw [upd_ne fun y => by rw [y, hD] at e; cases e]
        exact e
    have eD0 : (upd (upd H D (.dT [])) sd (.frz od (.dT (kvsI S)))) D = some (.dT (kvsO [])) := by rw [upd_ne Ds, upd_same]; rfl
    have eS0 : (upd (upd H D (.dT [])) sd (.frz od (.dT (kvsI S)))) sd = some (.frz od (.dT (kvsI S))) := upd_same
    generalize upd (upd H D (.dT [])) sd (.frz od (.dT (kvsI S))) = H0 at *
    have obF : (upd H sd (.frz od (.dT (kvsI S)))) p = some (.ins A.a_Table dx (sF (L : Int) sd td)) := by rw [upd_ne ps]; exact ob
    have dtF : (upd H sd (.frz od (.dT (kvsI S)))) td = some (.dT (kvsW Tl)) := by rw [upd_ne (Ne.symm st)]; exact dt
    have hkF : (upd H sd (.frz od (.dT (kvsI S)))) kd = some (.dT (kvsO kn)) := by rw [upd_ne ks]; exact hk
    have hDF : (upd H sd (.frz od (.dT (kvsI S)))) D = none := by rw [upd_ne Ds]; exact hD
    refine ⟨_, rfl, p, _, dx, _, _, rfl, sB _ _ obF, T.cl_Table, T.nA_Table_states, sF_states _ _ _, sd, od, _, rfl, eS0, ?_⟩
    refine for_it walk_itemsT (fun i σ H' => ∃ (v3 v4 : Option V) (st : List (List Int × Int)), σ = [some (.ref p), some (.int os), some (.ref kd), v3, v4, none, none, none, some (.ref D), none, none] ∧ H' D = some (.dT (kvsO st)) ∧ st.length ≤ i ∧ Firsts st ((S.take i).map (rowOf kn Tl)) ∧ Same (upd H sd (.frz od (.dT (kvsI S)))) H') ⟨none, none, [], rfl, eD0, Nat.le_refl _, fun r => by simp [toldOf], sB⟩ (fun i σ H' _ ⟨_, _, _, _, _, _, _, z⟩ => z _ _ upd_same) ?_ ?_
    · rintro i x σ H3 H3x hi ⟨v3, v4, st0, rfl, e3, l3, f3, s3⟩ ⟨Tt, q, k, v, hk2, hq, rfl, hTt, rfl⟩
      have il : i < S.length := by rw [kvsI_len] at hi; exact hi
      have ew := List.getElem?_eq_getElem il
      generalize S[i] = w at ew
      rw [kvsI_at ew] at hk2
      cases hk2
      rw [keyW_V] at hq
      have wS := List.mem_of_getElem? ew
      have s34 := same_upd (o := .tup [.ref q, .int (i : Int)]) (Same.refl H3) hTt
      have eT : (upd H3 Tt (.tup [.ref q, .int (i : Int)])) Tt = some (.tup [.ref q, .int (i : Int)]) := upd_same
      generalize upd H3 Tt (.tup [.ref q, .int (i : Int)]) = H4 at *
      have s4 := s3.trans s34
      refine ⟨Tt, _, rfl, SqT.of eT, rfl, _, _, rfl, _, _, rfl, rfl, ?_⟩
      refine ⟨_, rfl, D, _, rfl, s34 _ _ e3, ?_⟩
      refine ⟨_, rfl, p, dx, _, rfl, s4 _ _ obF, sF_no _ _ _ (by decide +kernel) (by decide +kernel) (by decide +kernel), _, rfl, _, rfl, ?_⟩
      refine ⟨p, sd, td, kd, q, (L : Int), Tl, kn, w, rfl, ⟨dx, s4 _ _ obF⟩, s4 _ _ dtF, s34 _ _ hq, s4 _ _ hkF, kt, full w (List.mem_append_left _ wS), by have := sm.t100; omega, by have := sm.ss w wS; omega, fun t ht => by have := sm.ts t ht; omega, fun H5 r s5 er => ?_⟩
      have er2 : H5 r = some (.tup ((keyW (rowOf kn Tl w)).map kV)) := by rw [keyW_V]; exact er
      have e5 := s5 _ _ (s34 _ _ e3)
      have il2 := sm.s100
      refine ⟨_, rfl, r, _, keyW (rowOf kn Tl w), rfl, e5, er2, ?_, fun v hv => ?_, fun hv => ?_⟩
      · unfold kvsO
        rw [List.length_map]
        exact Nat.lt_of_le_of_lt (by omega : st0.length ≤ 100) (by decide)
      · rw [valO, f3] at hv
        have mem : rowOf kn Tl w ∈ (S.take i).map (rowOf kn Tl) := Classical.byContradiction fun z => by
          rw [if_neg z] at hv
          cases hv
        refine ⟨_, _, st0, rfl, e5, by omega, ?_, s4.trans s5⟩
        rw [take_more ew, List.map_append]
        exact f3.old mem
      · rw [valO, f3] at hv
        have mem : rowOf kn Tl w ∉ (S.take i).map (rowOf kn Tl) := fun z => by
          rw [if_pos z] at hv
          cases hv
        have tn : toldOf st0 (rowOf kn Tl w) = none := by rw [f3, if_neg mem]
        refine ⟨_, _, st0 ++ [(rowOf kn Tl w, (i : Int))], rfl, ?_, by rw [List.length_append]; exact Nat.succ_le_succ l3, ?_, same_set (s4.trans s5) hDF⟩
        · rw [upd_same, kvsO_push tn]
        · rw [take_more ew, List.map_append]
          have z := f3.new mem
          rw [List.length_map, List.length_take, Nat.min_eq_left (by omega)] at z
          exact z
    rintro σ H3 ⟨v3, v4, st0, rfl, e3, l3, f3, s3⟩
    rw [kvsI_len, List.take_length] at f3
    refine ⟨s3 _ _ upd_same, ?_⟩
    have sU := unlock_same di s3
    have eD : (upd H3 sd (.dT (kvsI S))) D = some (.dT (kvsO st0)) := (upd_ne Ds).trans e3
    generalize upd H3 sd (.dT (kvsI S)) = H1 at *
    clear e3 s3 obF dtF hkF hDF sB eD0 eS0 H0
    have hT1 : GxR.TabG H1 Pt := by
      obtain ⟨ps, q, r⟩ := hT
      exact ⟨ps, sU _ _ q, r⟩
    have DP : D ≠ Pt := tab_ne hT1 eD fun ps z => by cases z
    refine ⟨(by show 0 ≤ sizeLine; decide), fun ML hML => ?_⟩
    have di1 := sU _ _ di
    have Ms : ML ≠ sd := fun z => by
      rw [z, di1] at hML
      cases hML
    have MD : ML ≠ D := fun z => by
      rw [z, eD] at hML
      cases hML
    refine ⟨sd, _, (upd_ne (Ne.symm Ms)).trans di1, trivial, fun od2 => ?_⟩
    have hTb : GxR.TabG (upd H1 sd (.frz od2 (.dT (kvsI S)))) Pt := tab_lock hT1 sP
    have kB : Kp Pt (upd H1 sd (.frz od2 (.dT (kvsI S)))) (upd (upd H1 ML (.lst [])) sd (.frz od2 (.dT (kvsI S)))) := .of hTb fun b o e => by
      by_cases z : b = sd
      · rw [z] at e ⊢
        rw [upd_same] at e ⊢
        exact e
      · rw [upd_ne z] at e ⊢
        rw [upd_ne fun y => by rw [y, hML] at e; cases e]
        exact e
    have eM0 : (upd (upd H1 ML (.lst [])) sd (.frz od2 (.dT (kvsI S)))) ML = some (.lst (([] : List Addr).map V.ref)) := by rw [upd_ne Ms, upd_same]; rfl
    have eS0 : (upd (upd H1 ML (.lst [])) sd (.frz od2 (.dT (kvsI S)))) sd = some (.frz od2 (.dT (kvsI S))) := upd_same
    generalize upd (upd H1 ML (.lst [])) sd (.frz od2 (.dT (kvsI S))) = H2 at *
    have obF : (upd H1 sd (.frz od2 (.dT (kvsI S)))) p = some (.ins A.a_Table dx (sF (L : Int) sd td)) := by rw [upd_ne ps]; exact sU _ _ ob
    have dtF : (upd H1 sd (.frz od2 (.dT (kvsI S)))) td = some (.dT (kvsW Tl)) := by rw [upd_ne (Ne.symm st)]; exact sU _ _ dt
    have hkF : (upd H1 sd (.frz od2 (.dT (kvsI S)))) kd = some (.dT (kvsO kn)) := by rw [upd_ne ks]; exact sU _ _ hk
    have eDF : (upd H1 sd (.frz od2 (.dT (kvsI S)))) D = some (.dT (kvsO st0)) := by rw [upd_ne Ds]; exact eD
    have eSF : (upd H1 sd (.frz od2 (.dT (kvsI S)))) sd = some (.frz od2 (.dT (kvsI S))) := upd_same
    have hMF : (upd H1 sd (.frz od2 (.dT (kvsI S)))) ML = none := by rw [upd_ne Ms]; exact hML
    refine ⟨_, rfl, p, _, dx, _, _, rfl, kB.keep _ _ pP obF, T.cl_Table, T.nA_Table_states, sF_states _ _ _, sd, od2, rfl, .inr ⟨_, eS0, ?_⟩⟩
    refine for_it walk_keysT (fun i σ H' => ∃ (v3 v4 v6 : Option V) (ms : List Addr), σ = [some (.ref p), some (.int os), some (.ref kd), v3, v4, some (.ref ML), v6, none, some (.ref D), none, none] ∧ H' ML = some (.lst (ms.map V.ref)) ∧ TupL H' ms ((S.take i).map fun w => (List.range L).map fun a : Nat => ixI (S.map (rowOf kn Tl)) (rowOf kn Tl (w ++ [(a : Int)]))) ∧ (∀ w ∈ S.take i, ∀ a < L, rowOf kn Tl (w ++ [(a : Int)]) ∈ S.map (rowOf kn Tl)) ∧ Kp Pt (upd H1 sd (.frz od2 (.dT (kvsI S)))) H')
      ⟨_, _, none, [], rfl, eM0, TupL.nil, fun w h => by simp at h, kB⟩ (fun i σ H' _ ⟨_, _, _, _, _, _, _, _, z⟩ => z.keep _ _ sP eSF) ?_ ?_
    · rintro i x σ H3 H3x hi ⟨v3, v4, v6, ms, rfl, eM, tm, cl, k3⟩ ⟨rfl, k, v, q, hk2, rfl, hq⟩
      have il : i < S.length := by rw [kvsI_len] at hi; exact hi
      have ew := List.getElem?_eq_getElem il
      generalize S[i] = w at ew
      rw [kvsI_at ew] at hk2
      cases hk2
      rw [keyW_V] at hq
      have wS := List.mem_of_getElem? ew
      have wl := sm.ss w wS
      refine ⟨_, rfl, p, _, dx, _, _, rfl, k3.keep _ _ pP obF, T.cl_Table, T.nA_Table_letters, sF_letters _ _ _, L, rfl, by have := sm.l1; omega, by have := sm.l4; omega, fun D3 hD3 => ?_⟩
      refine lc_it (walk_range (lo := 0) (n := ((L : Int)).toNat)) (fun a H' => ∃ us : List Addr, H' D3 = some (.lst (us.map V.ref)) ∧ TupL H' us ((List.range a).map fun a : Nat => rowOf kn Tl (w ++ [(a : Int)])) ∧ Same H3x H') ⟨[], upd_same, TupL.nil, same_upd (Same.refl _) hD3⟩ (fun _ _ _ _ => trivial) ?_ ?_
      · rintro a x H4x H4 ha ⟨us, e4, t4, s4⟩ ⟨rfl, rfl⟩
        have ea : (0 : Int) + (a : Int) = (a : Int) := by omega
        dsimp only
        rw [ea]
        have aL : a < L := by simpa using ha
        refine ⟨rfl, ?_⟩
        refine ⟨_, rfl, p, dx, _, rfl, s4 _ _ (k3.keep _ _ pP obF), sF_no _ _ _ (by decide +kernel) (by decide +kernel) (by decide +kernel), _, rfl, _, rfl, (by show 1 ≤ sizeLine; decide), fun q2 hq2 => ?_⟩
        have s5 := same_upd (o := .tup [.int (a : Int)]) (Same.refl H4) hq2
        have eq : (upd H4 q2 (.tup [.int (a : Int)])) q2 = some (.tup [.int (a : Int)]) := upd_same
        generalize upd H4 q2 _ = H5 at *
        refine catA_any (s5 _ _ (s4 _ _ hq)) eq (by rw [List.length_map]; exact Nat.le_of_lt (Nat.lt_of_le_of_lt (by show w.length + 1 ≤ 1001; omega) (by decide))) fun H6 r s6 er => ?_
        have s46 := s5.trans s6
        have k6 := k3.andS (s4.trans s46)
        have er : H6 r = some (.tup ((w ++ [(a : Int)]).map V.int)) := by rw [List.map_append]; exact er
        refine ⟨_, rfl, ?_⟩
        refine ⟨p, sd, td, kd, r, (L : Int), Tl, kn, w ++ [(a : Int)], rfl, ⟨dx, k6.keep _ _ pP obF⟩, k6.keep _ _ tP dtF, er, k6.keep _ _ kP hkF, kt, full _ (more_in wS aL), by have := sm.t100; omega, by rw [List.length_append]; show w.length + 1 ≤ 2000; omega, fun t ht => by have := sm.ts t ht; omega, fun H7 r7 s7 er7 => ?_⟩
        have s47 := s46.trans s7
        have e7 := s47 _ _ e4
        have lu := t4.1
        rw [List.length_map, List.length_range] at lu
        refine ⟨_, e7, ?_, us ++ [r7], by rw [upd_same, List.map_append]; rfl, ?_, same_set (s4.trans s47) hD3⟩
        · rw [List.length_map, lu]
          exact Nat.lt_of_le_of_lt (by have := sm.l4; omega : a ≤ 4) (by decide)
        · rw [List.range_succ, List.map_append]
          exact (t4.same s47).push e7 er7
      rintro H4 ⟨us, e4, t4, s4⟩
      have k4 := k3.andS s4
      have nL : ((L : Int)).toNat = L := by omega
      rw [nL] at t4
      have lu := t4.1
      rw [List.length_map, List.length_range] at lu
      have tb4 : GxR.TabG H4 Pt := k4.tab
      refine ⟨_, rfl, D3, rfl, ⟨_, SqL.of e4⟩, tb4, fun H5 tb => ?_⟩
      have k45 := Kp.ofTabbed tb
      have k5 := k4.trans k45
      have e5 := Kp.lst tb4 k45 e4
      have t5 := TupL.kp t4 tb4 k45
      refine ⟨fun j σ1 Hj => (∃ v10 : Option V, σ1 = [some (.ref p), some (.int os), some (.ref kd), some (.ref q), v4, some (.ref ML), some (.ref D3), none, some (.ref D), none, v10]) ∧ H5 = Hj ∧ ∀ a < j, rowOf kn Tl (w ++ [(a : Int)]) ∈ S.map (rowOf kn Tl), L, ⟨⟨_, rfl⟩, rfl, fun a h => by omega⟩, ?_, ?_⟩
      · rintro j σ1 Hj hj ⟨⟨v10, rfl⟩, rfl, al⟩
        have hu : us[j]? = some us[j] := List.getElem?_eq_getElem (by omega)
        have hU : (us.map V.ref)[j]? = some (V.ref us[j]) := by rw [List.getElem?_map, hu]; rfl
        refine ⟨⟨_, _, SqL.of e5, hU⟩, fun y H6 yl => ?_⟩
        obtain ⟨rfl, yl⟩ := yl
        have yl := yl _ (SqL.of e5)
        rw [hU] at yl
        cases yl
        have er := t5.2 j us[j] (rowOf kn Tl (w ++ [(j : Int)])) hu (by rw [List.getElem?_map, List.getElem?_range hj]; rfl)
        have er2 : H6 us[j] = some (.tup ((keyW (rowOf kn Tl (w ++ [(j : Int)]))).map kV)) := by rw [keyW_V]; exact er
        refine ⟨_, rfl, _, rfl, D, _, rfl, DGet.t (k := keyW (rowOf kn Tl (w ++ [(j : Int)]))) (k5.keep _ _ DP eDF) er2, ?_⟩
        rw [valO, f3]
        refine ⟨_, rfl, fun e => ?_, fun e => ⟨⟨_, rfl⟩, rfl, fun a ha => ?_⟩⟩
        · have nin : rowOf kn Tl (w ++ [(j : Int)]) ∉ S.map (rowOf kn Tl) := fun z => by
            rw [if_pos z] at e
            cases e
          refine ⟨_, rfl, ifDT rfl ?_⟩
          refine ⟨sd, od2, _, k5.keep _ _ sP eSF, fun o' u' z => ?_, ?_⟩
          · have z : H sd = _ := z
            rw [di] at z
            cases z
          · exact bad (fun clo => nin (clo w wS j hj)) _ ((Kp.of hT sU).trans (unlock_kp sP di1 k5))
        · by_cases c : a = j
          · rw [c]
            refine Classical.byContradiction fun z => ?_
            rw [if_neg z] at e
            cases e
          · exact al a (by omega)
      · rintro σ1 Hj ⟨⟨v10, rfl⟩, rfl, al⟩
        refine ⟨⟨_, SqL.of e5, by rw [List.length_map, lu]; exact Nat.le_refl _⟩, ?_⟩
        refine ⟨_, rfl, ifDF rfl ?_⟩
        have MP : ML ≠ Pt := tab_ne k3.tab eM fun ps z => by cases z
        have k35 := (Kp.of k3.tab s4).trans k45
        have eM5 := k35.keep _ _ MP eM
        have tm5 := TupL.kp tm k3.tab k35
        have eD5 := k5.keep _ _ DP eDF
        refine ⟨_, rfl, .inl ⟨rfl, _, SqL.of eM5⟩, ?_⟩
        refine ⟨_, rfl, D3, rfl, ⟨_, SqL.of e5⟩, fun D4 hD4 => ?_⟩
        refine lc_list (K := K) (a := D3) (xs := us.map V.ref) (fun a H' => Same H5 H' ∧ H' D4 = some (.lst (((List.range a).map fun a : Nat => ixI (S.map (rowOf kn Tl)) (rowOf kn Tl (w ++ [(a : Int)]))).map V.int))) ⟨same_upd (Same.refl _) hD4, upd_same⟩ (fun i H' _ z => SqL.of (z.1 _ _ e5)) ?_ ?_
        · rintro a y H6 hy ⟨s6, e6⟩
          obtain ⟨u, hu, rfl⟩ := ofV hy
          have aL : a < L := by rw [← lu]; exact (List.getElem?_eq_some_iff.mp hu).1
          have er := s6 _ _ (t5.2 a u (rowOf kn Tl (w ++ [(a : Int)])) hu (by rw [List.getElem?_map, List.getElem?_range aL]; rfl))
          have er2 : H6 u = some (.tup ((keyW (rowOf kn Tl (w ++ [(a : Int)]))).map kV)) := by rw [keyW_V]; exact er
          have gd := DGet.t (k := keyW (rowOf kn Tl (w ++ [(a : Int)]))) (s6 _ _ eD5) er2
          rw [valO, f3, if_pos (al a aL)] at gd
          refine ⟨rfl, _, rfl, _, rfl, D, .int _, rfl, gd, ?_⟩
          refine ⟨_, e6, ?_, same_set s6 hD4, ?_⟩
          · rw [List.length_map, List.length_map, List.length_range]
            exact Nat.lt_of_le_of_lt (by have := sm.l4; omega : a ≤ 4) (by decide)
          · rw [upd_same, List.range_succ, List.map_append, List.map_append]
            rfl
        rintro H6 ⟨s6, e6⟩
        rw [List.length_map, lu] at e6
        refine ⟨D4, _, rfl, .inl ⟨SqL.of e6, fun r hr' => ?_⟩⟩
        have s7 := same_upd (o := .tup (((List.range L).map fun a : Nat => ixI (S.map (rowOf kn Tl)) (rowOf kn Tl (w ++ [(a : Int)]))).map V.int)) s6 hr'
        have er7 : (upd H6 r (.tup (((List.range L).map fun a : Nat => ixI (S.map (rowOf kn Tl)) (rowOf kn Tl (w ++ [(a : Int)]))).map V.int))) r = some (.tup (((List.range L).map fun a : Nat => ixI (S.map (rowOf kn Tl)) (rowOf kn Tl (w ++ [(a : Int)]))).map V.int)) := upd_same
        generalize upd H6 r _ = H7 at *
        have eM7 := s7 _ _ eM5
        have tm7 := tm5.same s7
        have lm := tm7.1
        rw [List.length_map, List.length_take] at lm
        refine ⟨ML, _, _, rfl, rfl, eM7, ?_, ?_⟩
        · rw [List.length_map]
          exact Nat.lt_of_le_of_lt (by have := sm.s100; omega : ms.length ≤ 100) (by decide)
        refine ⟨_, _, _, ms ++ [r], rfl, by rw [upd_same, List.map_append]; rfl, ?_, fun x hx a ha => ?_, Kp.set (k5.andS s7) hTb hMF⟩
        · rw [take_more ew, List.map_append]
          exact tm7.push eM7 er7
        · rw [take_more ew] at hx
          rcases List.mem_append.mp hx with z | z
          · exact cl x z a ha
          · rw [List.mem_singleton.mp z]
            exact al a ha
    rintro σ H3 ⟨v3, v4, v6, ms, rfl, eM, tm, cl, k3⟩
    rw [kvsI_len, List.take_length] at tm cl
    refine ⟨k3.keep _ _ sP eSF, ?_⟩
    have k4 := unlock_kp sP di1 k3
    have tm4 := K11.TupL.unlock tm (k3.keep _ _ sP eSF) (v := .dT (kvsI S)) (fun xs z => by cases z)
    have eM4 : (upd H3 sd (.dT (kvsI S))) ML = some (.lst (ms.map V.ref)) := (upd_ne Ms).trans eM
    have di4 : (upd H3 sd (.dT (kvsI S))) sd = some (.dT (kvsI S)) := upd_same
    generalize upd H3 sd (.dT (kvsI S)) = H4 at *
    clear k3 tm eM
    have tb4 := k4.tab
    have k04 := (Kp.of hT sU).trans k4
    refine ⟨sd, _, di4, trivial, fun od3 => ?_⟩
    have obG : (upd H4 sd (.frz od3 (.dT (kvsI S)))) p = some (.ins A.a_Table dx (sF (L : Int) sd td)) := by rw [upd_ne ps]; exact k04.keep _ _ pP ob
    have hkG : (upd H4 sd (.frz od3 (.dT (kvsI S)))) kd = some (.dT (kvsO kn)) := by rw [upd_ne ks]; exact k04.keep _ _ kP hk
    refine ⟨_, rfl, p, _, dx, _, _, rfl, obG, T.cl_Table, T.nA_Table_states, sF_states _ _ _, sd, od3, rfl, .inr ⟨_, upd_same, fun D7 hD7 => ?_⟩⟩
    refine lc_it walk_keysT (fun i H' => Same (upd H4 sd (.frz od3 (.dT (kvsI S)))) H' ∧ H' D7 = some (.lst (((S.take i).map fun w => (toldOf kn w).getD 0).map V.int))) ⟨same_upd (Same.refl _) hD7, upd_same⟩ (fun i H' _ z => z.1 _ _ upd_same) ?_ ?_
    · rintro i x H5 H5x hi ⟨s5, e5⟩ ⟨rfl, k, v, q, hk2, rfl, hq⟩
      have il : i < S.length := by rw [kvsI_len] at hi; exact hi
      have ew := List.getElem?_eq_getElem il
      generalize S[i] = w at ew
      rw [kvsI_at ew] at hk2
      cases hk2
      have hq2 := hq
      rw [keyW_V] at hq
      have wS := List.mem_of_getElem? ew
      have gd := DGet.t (k := keyW w) (s5 _ _ hkG) hq2
      obtain ⟨z, hz⟩ : ∃ z, toldOf kn w = some z := by
        cases e : toldOf kn w with
        | none => exact absurd e (own w wS)
        | some z => exact ⟨z, rfl⟩
      rw [valO, hz] at gd
      refine ⟨rfl, _, rfl, _, rfl, kd, .int z, rfl, gd, ?_⟩
      refine ⟨_, e5, ?_, same_set s5 hD7, ?_⟩
      · rw [List.length_map, List.length_map, List.length_take]
        exact Nat.lt_of_le_of_lt (by have := sm.s100; omega : min i S.length ≤ 100) (by decide)
      · rw [upd_same, take_more ew, List.map_append, List.map_append]
        simp [hz]
    rintro H5 ⟨s5, e5⟩
    rw [kvsI_len, List.take_length] at e5
    refine ⟨s5 _ _ upd_same, ?_⟩
    have s45 := unlock_same di4 s5
    have D7s : D7 ≠ sd := fun z => by
      rw [z, upd_same] at hD7
      cases hD7
    have e7 : (upd H5 sd (.dT (kvsI S))) D7 = some (.lst ((S.map fun w => (toldOf kn w).getD 0).map V.int)) := (upd_ne D7s).trans e5
    generalize upd H5 sd (.dT (kvsI S)) = H6 at *
    have k06 := k04.andS s45
    refine ⟨_, rfl, p, _, dx, _, _, rfl, k06.keep _ _ pP ob, T.cl_Table, T.nA_Table_letters, sF_letters _ _ _, ?_⟩
    have eM6 := Kp.lst tb4 (.of tb4 s45) eM4
    have tm6 := tm4.same s45
    refine ⟨_, rfl, _, rfl, ML, _, rfl, .inl ⟨SqL.of eM6, fun mv hmv => ?_⟩⟩
    have s7 := same_upd (o := .tup (ms.map V.ref)) (Same.refl H6) hmv
    have emv : (upd H6 mv (.tup (ms.map V.ref))) mv = some (.tup (ms.map V.ref)) := upd_same
    generalize upd H6 mv (.tup (ms.map V.ref)) = H7 at *
    refine ⟨_, rfl, D7, _, rfl, .inl ⟨SqL.of (s7 _ _ e7), fun ou hou => ?_⟩⟩
    have s8 := same_upd (o := .tup ((S.map fun w => (toldOf kn w).getD 0).map V.int)) (Same.refl H7) hou
    have eou : (upd H7 ou (.tup ((S.map fun w => (toldOf kn w).getD 0).map V.int))) ou = some (.tup ((S.map fun w => (toldOf kn w).getD 0).map V.int)) := upd_same
    generalize upd H7 ou (.tup ((S.map fun w => (toldOf kn w).getD 0).map V.int)) = H8 at *
    refine ⟨(by show 4 ≤ sizeLine; decide), fun m hm => ?_⟩
    have s9 := same_upd (o := .tup [.int (L : Int), .int os, .ref mv, .ref ou]) (Same.refl H8) hm
    have em : (upd H8 m (.tup [.int (L : Int), .int os, .ref mv, .ref ou])) m = some (.tup [.int (L : Int), .int os, .ref mv, .ref ou]) := upd_same
    have s69 := (s7.trans s8).trans s9
    refine fin cl _ m (k06.andS s69) ⟨mv, ou, ms, em, (s8.trans s9) _ _ emv, s9 _ _ eou, tm6.1, fun i r w h1 h2 => s69 _ _ (tm6.2 i r w h1 h2)⟩
end
end K11

set_option Elab.async false
set_option linter.all false
set_option maxRecDepth 100000
set_option maxHeartbeats 4000000
namespace K11
open PySem PySem.Spec PyProof.Rows L2 Mz
def spWalk (K : PySem.W.Frag) : Sp := fun vs H Q _ => ∃ (m a : Addr) (M : Mach) (s : Int) (ns : List Int), vs = [.ref m, .int s, .ref a] ∧ MA H m M ∧ Good M ∧ M.St s ∧ SqT K H a (ns.map V.int) ∧ Lt M.ls ns ∧ Q (.int (M.run s ns)) H
/-- what a table's machine gets wrong first -/
def wrongOf (kn : List (List Int × Int)) (M : Mach) (S T : List (List Int)) : Option ((Nat × List Int) × List Int) :=
  (S.zipIdx.flatMap fun x => T.map fun t => ((x.2, x.1), t)).find? fun y => decide (M.out (M.run (y.1.1 : Int) y.2) ≠ (toldOf kn (y.1.2 ++ y.2)).getD 0)
def spMistake (A : Ads) (Pt : Addr) : Sp := fun vs H Q E => ∃ (p sd td kd : Addr) (L : Nat) (os : Int) (S T : List (List Int)) (kn : List (List Int × Int)), vs = [.ref p, .int os, .ref kd] ∧ TabAt A.a_Table H p sd td (L : Int) S T ∧ Small L S T ∧ H kd = some (.dT (kvsO kn)) ∧ kd ≠ sd ∧ kd ≠ td ∧ sd ≠ td ∧ Full kn L S T ∧ (∀ w ∈ S, toldOf kn w ≠ none) ∧ GxR.TabG H Pt ∧
  Closed kn L S T ∧ Good (madeOf kn L os S T) ∧ (∀ t ∈ T, Lt L t) ∧
  (wrongOf kn (madeOf kn L os S T) S T = none → ∀ H' : Hp, Kp Pt H H' → Q .non H') ∧
  (∀ j w t, wrongOf kn (madeOf kn L os S T) S T = some ((j, w), t) → ∀ (H' : Hp) (q a b : Addr), Kp Pt H H' → H' q = some (.tup [.ref a, .ref b]) → H' a = some (.lst (w.map V.int)) → H' b = some (.lst (t.map V.int)) → Q (.ref q) H')
theorem MA.lock {H : Hp} {d m : Addr} {u o : HO} {M : Mach} (h : MA H m M) (e : H d = some u) (n : ∀ xs, u ≠ .tup xs) : MA (upd H d o) m M := by
  have k : ∀ {a : Addr} {xs : List V}, H a = some (.tup xs) → (upd H d o) a = some (.tup xs) := fun {a xs} q => (upd_ne fun z => by
    rw [z, e] at q
    exact n _ (Option.some.inj q)).trans q
  obtain ⟨mv, ou, rs, h⟩ := h
  exact ⟨mv, ou, rs, k h.top, k h.mv, k h.ou, h.len, fun i r w a b => k (h.row i r w a b)⟩
section
variable {P : Program} {w : World} {K : PySem.W.Frag} {mg : Str → Option Value} {base : Heap} {A : Ads} {c Pt : Addr}
theorem ok_walk (T : Txt K mg A) : FnOk P w K mg base CX0 1 A.a_walk A.d_walk ["machine", "state", "word"] (spWalk K) := by
  refine T.F_walk.ok sc_walk (fun vs H Q E h => ?_) (fun cdv Ar outer s H vs Q E hr h => ?_)
  · obtain ⟨_, _, _, _, _, rfl, _⟩ := h
    rfl
  · obtain ⟨m, a, M, s0, ns, rfl, ⟨mv, ou, rs, hM⟩, g, hs, hS, hL, fin⟩ := h
    refine ⟨_, (pss_cons (ps_set (i := 3) sc_walk.nd rfl (Or.inl rfl) (pe_ix (r := rIx K) ix_seq (pv 0) pe_int (fun _ _ => rfl)))
      (pss_cons (ps_for PassesOwn.never rfl (pi_tup (pv 2)) (pg_name (i := 4) sc_walk.nd rfl (Or.inl rfl))
        (pss_one (ps_set (i := 1) sc_walk.nd rfl (Or.inl rfl) (pe_ix (r := rIx K) ix_seq (pe_ix (r := rIx K) ix_seq (pv 3) (pv 1) (fun _ _ => rfl)) (pv 4) (fun _ _ => rfl)))))
      (pss_one (ps_ret (pv 1))))), ?_⟩
    refine ⟨_, rfl, .inr (.inl ⟨m, _, 2, .ref mv, rfl, rfl, SqT.of hM.top, rfl, ?_⟩)⟩
    refine ⟨_, rfl, a, rfl, ⟨_, hS⟩, for_tup (K := K) (a := a) (xs := ns.map V.int) (fun i σ H' => ∃ v : Option V, σ = [some (.ref m), some (.int (M.run s0 (ns.take i))), some (.ref a), some (.ref mv), v] ∧ H' = H ∧ M.St (M.run s0 (ns.take i)))
      ⟨none, rfl, rfl, hs⟩ (fun i σ H' _ ⟨_, _, e, _⟩ => by rw [e]; exact hS) ?_ ?_⟩
    · rintro i y σ H' hi ⟨v, rfl, rfl, st⟩
      obtain ⟨z, hz, rfl⟩ := ofV hi
      have zl := hL z (List.mem_of_getElem? hz)
      obtain ⟨st2, w1, e1, e2⟩ := g.step st zl.1 zl.2
      obtain ⟨r, f1, f2⟩ := hM.rowAt st.1 e1
      refine ⟨_, rfl, _, rfl, .inr (.inl ⟨mv, _, _, _, rfl, rfl, SqT.of hM.mv, f1, ?_⟩)⟩
      refine ⟨_, rfl, .inr (.inl ⟨r, _, _, _, rfl, rfl, SqT.of f2, atI_get? zl.1 e2, ?_⟩)⟩
      rw [take_more hz, run_snoc]
      exact ⟨_, rfl, rfl, st2⟩
    · rintro σ H' ⟨v, rfl, rfl, st⟩
      rw [List.length_map, List.take_length]
      exact ⟨_, rfl, fin⟩
theorem ok_mistake (T : Txt K mg A) (TB : GxR.TabB base mg c Pt) (hc : A.d_Table_machine.code = .ref c) : FnOk P w K mg base (L2N.CX P w) 6 A.a_Table_mistake A.d_Table_mistake ["self", "outs", "known"] (spMistake A Pt) := by
  have G_Table_machine : FnOk P w K mg base (L2N.CX P w) 5 A.a_Table_machine A.d_Table_machine ["self", "outs", "known"] (spMachine A Pt) := ok_machine T TB hc
  have G_walk : FnOk P w K mg base CX0 1 A.a_walk A.d_walk ["machine", "state", "word"] (spWalk K) := ok_walk T
  refine okN T.F_Table_mistake sc_Table_mistake (fun vs H Q E h => ?_) (fun cdv Ar outer s H vs Q E hr h => ?_)
  · obtain ⟨_, _, _, _, _, _, _, _, _, rfl, _⟩ := h
    rfl
  · have hr_Table_machine : Room 5 _ := hr
    have hr_walk : Room 1 _ := hr.mono (by decide)
    refine ⟨_, (pss_cons (ps_set (i := 3) sc_Table_mistake.nd rfl (Or.inl rfl) (pe_meth (pv 0) T.cl_Table T.m_Table_machine G_Table_machine hr_Table_machine T.b_Table_machine .nil (L2N.passes_call (L2N.takes_of rfl rfl rfl rfl) (fun _ _ _ _ h => h)) (pa_cons (pv 1) (pa_cons (pv 2) pa_nil))))
      (pss_cons (ps_lock (ps_for (passes_of rfl) rfl (pi_itemsT (pe_fld (pv 0) rfl)) (pg_tup rfl (pgs_cons (pg_name (i := 4) sc_Table_mistake.nd rfl (Or.inl rfl)) (pgs_cons (pg_name (i := 5) sc_Table_mistake.nd rfl (Or.inl rfl)) pgs_nil)))
        (pss_one (ps_lock (ps_for (passes_of rfl) rfl (pi_keys (pe_fld (pv 0) rfl)) (pg_name (i := 6) sc_Table_mistake.nd rfl (Or.inl rfl))
            (pss_one (ps_if (pt_cmpR op_ne (pe_ix (r := rIx K) ix_seq (pe_ix (r := rIx K) ix_seq (pv 3) pe_int (fun _ _ => rfl)) (pe_call G_walk hr_walk (by rfl) T.g_walk T.F_walk.kp T.b_walk .nil pass0 (pa_cons (pv 3) (pa_cons (pv 5) (pa_cons (pv 6) pa_nil)))) (fun _ _ => rfl)) (pe_dget (hu_of hr) (pv 2) (pe_op (r := rCatA K) op_catA (pv 4) (pv 6)) (fun _ _ => rfl)) (nomark _)) (pss_one (ps_ret (pe_tup (pa_cons (pe_callTy call_list_of (by rfl) T.n_list (by decide +kernel) (pa_cons (pv 4) pa_nil)) (pa_cons (pe_callTy call_list_of (by rfl) T.n_list (by decide +kernel) (pa_cons (pv 6) pa_nil)) pa_nil))))) pss_nil)))))))
      (pss_one (ps_ret pe_non)))), ?_⟩
    obtain ⟨p, sd, td, kd, L, os, S, Tl, kn, rfl, hs, sm, hk, ks, kt, st, full, own, hT, clo, g, tl, f0, f1⟩ := h
    obtain ⟨⟨dx, ob⟩, di, dt⟩ := id hs
    have pS : p ≠ sd := fun z => by
      rw [z, di] at ob
      cases ob
    have pT : p ≠ td := fun z => by
      rw [z, dt] at ob
      cases ob
    have sP : sd ≠ Pt := tab_ne hT di fun ps z => by cases z
    have pP : p ≠ Pt := tab_ne hT ob fun ps z => by cases z
    have tP : td ≠ Pt := tab_ne hT dt fun ps z => by cases z
    have kP : kd ≠ Pt := tab_ne hT hk fun ps z => by cases z
    refine ⟨_, rfl, p, dx, _, rfl, ob, sF_no _ _ _ (by decide +kernel) (by decide +kernel) (by decide +kernel), _, rfl, _, rfl, ?_⟩
    refine ⟨p, sd, td, kd, L, os, S, Tl, kn, rfl, hs, sm, hk, ks, kt, st, full, own, hT, fun _ H1 m k1 hm => ?_, fun z => absurd clo z⟩
    refine ⟨sd, _, k1.keep _ _ sP di, trivial, fun od => ?_⟩
    have hT1 := k1.tab
    have s0 : ∀ {o : Obj}, (upd H1 sd (.frz o (.dT (kvsI S)))) sd = some (.frz o (.dT (kvsI S))) := fun {o} => upd_same
    have di1 := k1.keep _ _ sP di
    have obF : (upd H1 sd (.frz od (.dT (kvsI S)))) p = some (.ins A.a_Table dx (sF (L : Int) sd td)) := by rw [upd_ne pS]; exact k1.keep _ _ pP ob
    have dtF : (upd H1 sd (.frz od (.dT (kvsI S)))) td = some (.dT (kvsW Tl)) := by rw [upd_ne (Ne.symm st)]; exact k1.keep _ _ tP dt
    have hkF : (upd H1 sd (.frz od (.dT (kvsI S)))) kd = some (.dT (kvsO kn)) := by rw [upd_ne ks]; exact k1.keep _ _ kP hk
    have hmF : MA (upd H1 sd (.frz od (.dT (kvsI S)))) m (madeOf kn L os S Tl) := K11.MA.lock hm di1 fun xs z => by cases z
    have eSF : (upd H1 sd (.frz od (.dT (kvsI S)))) sd = some (.frz od (.dT (kvsI S))) := upd_same
    have lenS : (madeOf kn L os S Tl).rows.length = S.length := by show (List.map _ S).length = _; rw [List.length_map]
    generalize hMd : madeOf kn L os S Tl = Md at *
    refine ⟨_, rfl, p, _, dx, _, _, rfl, obF, T.cl_Table, T.nA_Table_states, sF_states _ _ _, sd, od, _, rfl, eSF, ?_⟩
    refine for_it walk_itemsT (fun i σ H' => ∃ (v4 v5 v6 : Option V), σ = [some (.ref p), some (.int os), some (.ref kd), some (.ref m), v4, v5, v6] ∧ Same (upd H1 sd (.frz od (.dT (kvsI S)))) H' ∧ ∀ (j : Nat) (w : List Int), j < i → S[j]? = some w → ∀ t ∈ Tl, Md.out (Md.run (j : Int) t) = (toldOf kn (w ++ t)).getD 0) ⟨none, none, none, rfl, Same.refl _, fun j w h => by omega⟩ (fun i σ H' _ ⟨_, _, _, _, z, _⟩ => z _ _ upd_same) ?_ ?_
    · rintro i x σ H3 H3x hi ⟨v4, v5, v6, rfl, s3, al⟩ ⟨Tt, q, k, v, hk2, hq, rfl, hTt, rfl⟩
      have il : i < S.length := by rw [kvsI_len] at hi; exact hi
      have ew := List.getElem?_eq_getElem il
      generalize S[i] = w at ew
      rw [kvsI_at ew] at hk2
      cases hk2
      rw [keyW_V] at hq
      have wS := List.mem_of_getElem? ew
      have s34 := same_upd (o := .tup [.ref q, .int (i : Int)]) (Same.refl H3) hTt
      have eT : (upd H3 Tt (.tup [.ref q, .int (i : Int)])) Tt = some (.tup [.ref q, .int (i : Int)]) := upd_same
      generalize upd H3 Tt (.tup [.ref q, .int (i : Int)]) = H4 at *
      have s4 := s3.trans s34
      have hq4 := s34 _ _ hq
      refine ⟨Tt, _, rfl, SqT.of eT, rfl, _, _, rfl, _, _, rfl, rfl, ?_⟩
      have dt4 := s4 _ _ dtF
      refine ⟨td, _, dt4, trivial, fun od2 => ?_⟩
      have eT2 : (upd H4 td (.frz od2 (.dT (kvsW Tl)))) td = some (.frz od2 (.dT (kvsW Tl))) := upd_same
      have hmG : MA (upd H4 td (.frz od2 (.dT (kvsW Tl)))) m Md := K11.MA.lock (hmF.same s4) dt4 fun xs z => by cases z
      have obG : (upd H4 td (.frz od2 (.dT (kvsW Tl)))) p = some (.ins A.a_Table dx (sF (L : Int) sd td)) := by rw [upd_ne pT]; exact s4 _ _ obF
      have hkG : (upd H4 td (.frz od2 (.dT (kvsW Tl)))) kd = some (.dT (kvsO kn)) := by rw [upd_ne kt]; exact s4 _ _ hkF
      have hqG : (upd H4 td (.frz od2 (.dT (kvsW Tl)))) q = some (.tup (w.map V.int)) := (upd_ne fun z => by rw [z, dt4] at hq4; cases hq4).trans hq4
      refine ⟨_, rfl, p, _, dx, _, _, rfl, obG, T.cl_Table, T.nA_Table_tails, sF_tails _ _ _, td, od2, rfl, .inr ⟨_, eT2, ?_⟩⟩
      refine for_it walk_keysT (fun j σ H' => ∃ v6 : Option V, σ = [some (.ref p), some (.int os), some (.ref kd), some (.ref m), some (.ref q), some (.int (i : Int)), v6] ∧ Same (upd H4 td (.frz od2 (.dT (kvsW Tl)))) H' ∧ ∀ t ∈ Tl.take j, Md.out (Md.run (i : Int) t) = (toldOf kn (w ++ t)).getD 0) ⟨_, rfl, Same.refl _, fun u hu => by simp at hu⟩ (fun j σ H' _ ⟨_, _, z, _⟩ => z _ _ upd_same) ?_ ?_
      · rintro j x σ H5 H5x hj ⟨v6, rfl, s5, al5⟩ ⟨rfl, k, v, q2, hk2, rfl, hq2⟩
        have jl : j < Tl.length := by rw [kvsW_len] at hj; exact hj
        have eu := List.getElem?_eq_getElem jl
        generalize Tl[j] = u at eu
        have hk3 : (kvsW Tl)[j]? = some (keyW u, .bl true) := by
          unfold kvsW
          rw [List.getElem?_map, eu]
          rfl
        rw [hk3] at hk2
        cases hk2
        rw [keyW_V] at hq2
        have uT := List.mem_of_getElem? eu
        have ul := sm.ts u uT
        have wl := sm.ss w wS
        have stI : Md.St (i : Int) := ⟨by omega, by rw [lenS]; omega⟩
        have lu : Lt Md.ls u := by rw [← hMd]; exact tl u uT
        have room : (w.map V.int).length + (u.map V.int).length ≤ sizeLine := by
          rw [List.length_map, List.length_map]
          exact Nat.le_of_lt (Nat.lt_of_le_of_lt (by omega : w.length + u.length ≤ 4000) (by decide))
        obtain ⟨mv, ou, rs, hMt⟩ := hmG.same s5
        have stU := g.runs stI lu
        obtain ⟨z, hz⟩ := full w (List.mem_append_left _ wS) u uT
        refine ⟨_, rfl, .inr (.inl ⟨m, _, 3, .ref ou, rfl, rfl, SqT.of hMt.top, rfl, ?_⟩)⟩
        refine ⟨_, rfl, _, rfl, _, rfl, m, q2, Md, i, u, rfl, ⟨mv, ou, rs, hMt⟩, g, stI, SqT.of hq2, lu, ?_⟩
        refine .inr (.inl ⟨ou, _, _, _, rfl, rfl, SqT.of hMt.ou, atI_get? stU.1 (g.outp stU).1, ?_⟩)
        refine ⟨_, rfl, _, rfl, _, rfl, ?_⟩
        refine catA_any (s5 _ _ hqG) hq2 room fun H6 c6 s6 ec => ?_
        have ec2 : H6 c6 = some (.tup ((keyW (w ++ u)).map kV)) := by rw [keyW_V, List.map_append]; exact ec
        have s56 := s5.trans s6
        have gd := DGet.t (k := keyW (w ++ u)) (s56 _ _ hkG) ec2
        rw [valO, hz] at gd
        refine ⟨kd, .int z, rfl, gd, ?_⟩
        dsimp only
        refine ⟨rfl, _, rfl, iteN2 (fun c1 => ?_) (fun c1 => ?_)⟩
        · refine ⟨_, rfl, q, _, rfl, .inr (SqT.of (s56 _ _ hqG)), fun a ha => ?_⟩
          have s7 := same_upd (o := .lst (w.map V.int)) s56 ha
          have ea : (upd H6 a (.lst (w.map V.int))) a = some (.lst (w.map V.int)) := upd_same
          have hq7 := (same_upd (o := .lst (w.map V.int)) s6 ha) _ _ hq2
          generalize upd H6 a (.lst (w.map V.int)) = H7 at *
          refine ⟨_, rfl, q2, _, rfl, .inr (SqT.of hq7), fun b hb => ?_⟩
          have s8 := same_upd (o := .lst (u.map V.int)) s7 hb
          have eb : (upd H7 b (.lst (u.map V.int))) b = some (.lst (u.map V.int)) := upd_same
          have ea8 := (same_upd (o := .lst (u.map V.int)) (Same.refl H7) hb) _ _ ea
          generalize upd H7 b (.lst (u.map V.int)) = H8 at *
          refine ⟨(by show 2 ≤ sizeLine; decide), fun x hx => ?_⟩
          have s9 := same_upd (o := .tup [.ref a, .ref b]) s8 hx
          have s89 := same_upd (o := .tup [.ref a, .ref b]) (Same.refl H8) hx
          have ex : (upd H8 x (.tup [.ref a, .ref b])) x = some (.tup [.ref a, .ref b]) := upd_same
          generalize upd H8 x (.tup [.ref a, .ref b]) = H9 at *
          have ea9 := s89 _ _ ea8
          have eb9 := s89 _ _ eb
          have sU := unlock_same dt4 s9
          have e9 := (s4.trans sU) _ _ eSF
          have kU := k1.trans (unlock_kp sP di1 (.of (tab_lock hT1 sP) (s4.trans sU)))
          have ne1 : ∀ {b : Addr} {o : HO}, H9 b = some o → (∀ o' u', o ≠ .frz o' u') → b ≠ td := fun e n z => by
            rw [z, s9 _ _ eT2] at e
            exact n _ _ (Option.some.inj e).symm
          have ne2 : ∀ {b : Addr} {o : HO}, (upd H9 td (.dT (kvsW Tl))) b = some o → (∀ o' u', o ≠ .frz o' u') → b ≠ sd := fun e n z => by
            rw [z, e9] at e
            exact n _ _ (Option.some.inj e).symm
          have keep : ∀ {b : Addr} {o : HO}, H9 b = some o → (∀ o' u', o ≠ .frz o' u') → (upd (upd H9 td (.dT (kvsW Tl))) sd (.dT (kvsI S))) b = some o := fun e n => by
            have e1 := (upd_ne (H := H9) (o := .dT (kvsW Tl)) (ne1 e n)).trans e
            rw [upd_ne (ne2 e1 n)]
            exact e1
          refine ⟨s9 _ _ eT2, e9, f1 i w u ?_ _ x a b kU (keep ex fun _ _ z => by cases z) (keep ea9 fun _ _ z => by cases z) (keep eb9 fun _ _ z => by cases z)⟩
          refine find_flat (x := (w, i)) (i := i) (by rw [List.getElem?_zipIdx, ew]; simp) (fun y hy z hz2 => ?_) (j := j) (z := ((i, w), u)) (by rw [List.getElem?_map, eu]; rfl) (fun y hy => ?_) (decide_eq_true ?_)
          · obtain ⟨v, hv2, rfl⟩ := List.mem_map.mp hz2
            obtain ⟨n, hn, e⟩ := List.mem_take_iff_getElem.mp hy
            rw [List.getElem_zipIdx] at e
            subst e
            rw [List.length_zipIdx] at hn
            refine decide_eq_false fun z => z ?_
            exact al (0 + n) S[n] (by omega) (by rw [Nat.zero_add]; exact List.getElem?_eq_getElem (by omega)) v hv2
          · rw [← List.map_take] at hy
            obtain ⟨v, hv2, rfl⟩ := List.mem_map.mp hy
            exact decide_eq_false (fun z => z (al5 v hv2))
          · show Md.out (Md.run (i : Int) u) ≠ (toldOf kn (w ++ u)).getD 0
            rw [hz]
            exact fun y => c1 (congrArg V.int y)
        · refine ⟨_, rfl, s56, fun t ht => ?_⟩
          rw [take_more eu] at ht
          rcases List.mem_append.mp ht with y | y
          · exact al5 t y
          · rw [List.mem_singleton.mp y, hz]
            exact V.int.inj c1
      · rintro σ H5 ⟨v6, rfl, s5, al5⟩
        rw [kvsW_len, List.take_length] at al5
        refine ⟨s5 _ _ upd_same, ?_⟩
        refine ⟨_, _, _, rfl, s4.trans (unlock_same dt4 s5), fun j y hj hy => ?_⟩
        by_cases c : j = i
        · rw [c, ew] at hy
          cases hy
          rw [c]
          exact al5
        · exact al j y (by omega) hy
    rintro σ H3 ⟨v4, v5, v6, rfl, s3, al⟩
    refine ⟨s3 _ _ upd_same, ?_⟩
    refine f0 ?_ _ (k1.trans (unlock_kp sP di1 (.of (tab_lock hT1 sP) s3)))
    unfold wrongOf
    rw [List.find?_eq_none]
    intro y hy
    obtain ⟨x, hx, hm2⟩ := List.mem_flatMap.mp hy
    obtain ⟨t, ht, rfl⟩ := List.mem_map.mp hm2
    have hx2 := List.mem_zipIdx_iff_getElem?.mp hx
    rw [kvsI_len] at al
    have := al x.2 x.1 (List.getElem?_eq_some_iff.mp hx2).1 hx2 t ht
    simp only [this, ne_eq, not_true_eq_false, decide_false, Bool.false_eq_true, not_false_eq_true]
end
end K11

set_option Elab.async false
set_option linter.all false
set_option maxRecDepth 100000
set_option maxHeartbeats 4000000
namespace K11
open PySem PySem.Spec PyProof.Rows L2 Mz
theorem getI {ns : List Int} {j : Nat} (h : j < ns.length) : ∃ z, ns[j]? = some z ∧ z ∈ ns ∧ (ns.map V.int)[j]? = some (.int z) := by
  refine ⟨ns[j], List.getElem?_eq_getElem h, List.getElem_mem h, ?_⟩
  rw [List.getElem?_map, List.getElem?_eq_getElem h]
  rfl
theorem atI_int {ns : List Int} {i : Int} (h0 : 0 ≤ i) (h1 : i < ns.length) : ∃ z, z ∈ ns ∧ atI (ns.map V.int) i = some (.int z) := by
  obtain ⟨z, h2, h3, h4⟩ := getI (ns := ns) (j := i.toNat) (by omega)
  refine ⟨z, h3, ?_⟩
  have e : i = ((i.toNat : Nat) : Int) := by omega
  rw [e]
  exact atI_nat h4
def spCell (K : PySem.W.Frag) : Sp := fun vs H Q _ => ∃ (a : Addr) (ns : List Int) (k : Int), vs = [.ref a, .int k] ∧ SqL K H a (ns.map V.int) ∧ 0 ≤ k ∧ ∀ z, Q (.int z) H
def Nums (m : Nat) (ns : List Int) : Prop := ns.length = m ∧ ∀ z ∈ ns, 0 ≤ z ∧ z < 1000
def spNumbers : Sp := fun vs H Q _ => ∃ (c k : Int) (m : Nat), vs = [.int c, .int k, .int (m : Int)] ∧ 0 ≤ k ∧ k ≤ 9 ∧ 1 ≤ m ∧ m ≤ 30 ∧
  ∀ (ns : List Int) (H' : Hp) (p : Addr), Nums m ns → Same H H' → H p = none → H' p = some (.lst (ns.map V.int)) → Q (.ref p) H'
def spLMachine (K : PySem.W.Frag) : Sp := fun vs H Q _ => ∃ (p : Addr) (ns : List Int) (k o n : Int), vs = [.ref p, .int k, .int o, .int n] ∧ SqL K H p (ns.map V.int) ∧ Nums 30 ns ∧ 1 ≤ k ∧ k ≤ 3 ∧ 2 ≤ o ∧ o ≤ 3 ∧ 1 ≤ n ∧ n ≤ 5 ∧
  ∀ (M : Mach) (H' : Hp) (m : Addr), Good M → M.ls = k → M.os = o → (M.rows.length : Int) = n → Same H H' → MA H' m M → Q (.ref m) H'
/-- what a machine has behind a word -/
def ansM (M : Mach) (w : List Int) : Int := M.out (M.run 0 w)
def spState (K : PySem.W.Frag) : Sp := fun vs H Q _ => ∃ (m a : Addr) (M : Mach) (ns : List Int), vs = [.ref m, .ref a] ∧ MA H m M ∧ Good M ∧ SqL K H a (ns.map V.int) ∧ Lt M.ls ns ∧ Q (.int (M.run 0 ns)) H
def spOutput (K : PySem.W.Frag) : Sp := fun vs H Q _ => ∃ (m a : Addr) (M : Mach) (ns : List Int), vs = [.ref m, .ref a] ∧ MA H m M ∧ Good M ∧ SqL K H a (ns.map V.int) ∧ Lt M.ls ns ∧ Q (.int (ansM M ns)) H
section
variable {P : Program} {w : World} {K : PySem.W.Frag} {mg : Str → Option Value} {base : Heap} {A : Ads}
theorem ok_cell (T : Txt K mg A) : FnOk P w K mg base CX0 1 A.a_law_cell A.d_law_cell ["script", "k"] (spCell K) := by
  refine T.F_law_cell.ok sc_law_cell (fun vs H Q E h => ?_) (fun cdv Ar outer s H vs Q E hr h => ?_)
  · obtain ⟨_, _, _, rfl, _⟩ := h
    rfl
  · obtain ⟨a, ns, k, rfl, hS, h0, q⟩ := h
    refine ⟨_, (pss_cons (ps_if (pt_cmpR op_lt (pv 1) (pe_callB call_len_seq (by rfl) T.n_len PySem.boot_len (pa_cons (pv 0) pa_nil)) (nomark _)) (pss_one (ps_ret (pe_ix (r := rIx K) ix_seq (pv 0) (pv 1) (fun _ _ => rfl)))) pss_nil)
      (pss_one (ps_ret pe_int))), ?_⟩
    refine ⟨_, rfl, _, rfl, a, _, rfl, .inl hS, _, _, rfl, rfl, _, rfl, ?_⟩
    refine ite2 (fun c => ?_) (fun c => ?_)
    · have c' : k < ((ns.map V.int).length : Int) := by simpa using c
      rw [List.length_map] at c'
      obtain ⟨z, _, hz⟩ := atI_int h0 c'
      exact ⟨_, rfl, _, rfl, .inl ⟨a, _, k, _, rfl, rfl, hS, hz, q z⟩⟩
    · exact q 0
theorem ok_numbers (T : Txt K mg A) : FnOk P w K mg base CX0 1 A.a_law_numbers A.d_law_numbers ["cell", "k", "many"] spNumbers := by
  refine T.F_law_numbers.ok sc_law_numbers (fun vs H Q E h => ?_) (fun cdv Ar outer s H vs Q E hr h => ?_)
  · obtain ⟨_, _, _, rfl, _⟩ := h
    rfl
  · obtain ⟨c, k, m, rfl, h0, h9, m1, m30, q⟩ := h
    refine ⟨_, (pss_cons (ps_set (i := 3) sc_law_numbers.nd rfl (Or.inl rfl) (pe_lst pa_nil))
      (pss_cons (ps_if (pt_cmpR op_ge (pv 0) (pe_op op_pow pe_int pe_int) (nomark _)) (pss_cons (ps_set (i := 4) sc_law_numbers.nd rfl (Or.inl rfl) (pv 0))
          (pss_cons (ps_for PassesOwn.never rfl (pi_range1 (by rfl) T.n_range (pa_cons (pv 2) pa_nil)) (pg_name (i := 5) sc_law_numbers.nd rfl (Or.inl rfl))
            (pss_cons (ps_expr (pe_bm PySem.F.plainAttrs_list PySem.F.slot_list_append PySem.F.type_list_append mt_append (pv 3) (pa_cons (pe_op op_mod (pe_callTy call_int1 (by rfl) T.n_int (by decide +kernel) (pa_cons (pv 4) pa_nil)) pe_int) pa_nil)))
              (pss_one (ps_set (i := 4) sc_law_numbers.nd rfl (Or.inl rfl) (pe_op op_fdiv (pv 4) pe_int)))))
          (pss_one (ps_ret (pv 3))))) pss_nil)
      (pss_cons (ps_set (i := 6) sc_law_numbers.nd rfl (Or.inl rfl) (pe_op op_mod (pe_callTy call_int1 (by rfl) T.n_int (by decide +kernel) (pa_cons (pe_op op_add (pe_op op_add (pe_op op_mul (pv 0) pe_int) (pe_op op_mul (pv 1) pe_int)) pe_int) pa_nil)) pe_int))
      (pss_cons (ps_for PassesOwn.never rfl (pi_range1 (by rfl) T.n_range (pa_cons (pv 2) pa_nil)) (pg_name (i := 5) sc_law_numbers.nd rfl (Or.inl rfl))
        (pss_cons (ps_set (i := 6) sc_law_numbers.nd rfl (Or.inl rfl) (pe_op op_mod (pe_callTy call_int1 (by rfl) T.n_int (by decide +kernel) (pa_cons (pe_op op_add (pe_op op_add (pe_op op_mul (pv 6) pe_int) (pe_op op_mul (pv 5) pe_int)) pe_int) pa_nil)) pe_int))
          (pss_cons (ps_set (i := 7) sc_law_numbers.nd rfl (Or.inl rfl) (pe_op op_mod (pe_callTy call_int1 (by rfl) T.n_int (by decide +kernel) (pa_cons (pe_op op_add (pe_op op_add (pe_op op_mul (pv 6) (pv 6)) (pe_op op_mul (pv 1) pe_int)) (pv 5)) pa_nil)) pe_int))
          (pss_one (ps_expr (pe_bm PySem.F.plainAttrs_list PySem.F.slot_list_append PySem.F.type_list_append mt_append (pv 3) (pa_cons (pe_op op_mod (pe_callTy call_int1 (by rfl) T.n_int (by decide +kernel) (pa_cons (pe_op op_fdiv (pv 7) pe_int) pa_nil)) pe_int) pa_nil)))))))
      (pss_one (ps_ret (pv 3))))))), ?_⟩
    refine ⟨Nat.zero_le _, fun l hl => ?_⟩
    refine ⟨_, rfl, _, _, rfl, rfl, ⟨by decide, by decide, by decide⟩, _, _, rfl, rfl, _, rfl, ?_⟩
    refine ite2 (fun cc => ?_) (fun cc => ?_)
    · refine ⟨_, rfl, ?_⟩
      refine ⟨_, rfl, (m : Int), rfl, by omega, by omega, for_range (n := ((m : Int)).toNat) (fun i σ H' => ∃ (r : Int) (v : Option V) (ns : List Int), σ = [some (.int c), some (.int k), some (.int (m : Int)), some (.ref l), some (.int r), v, none, none] ∧ H' = upd H l (.lst (ns.map V.int)) ∧ ns.length = i ∧ ∀ z ∈ ns, 0 ≤ z ∧ z < 1000)
        ⟨c, none, [], rfl, rfl, rfl, fun z hz => absurd hz (by simp)⟩ ?_ ?_⟩
      · rintro i σ H' hi ⟨r, v, ns, rfl, rfl, hl1, hl2⟩
        refine ⟨_, rfl, .inl ⟨rfl, _, SqL.of upd_same⟩, _, rfl, .inl ⟨_, rfl, _, _, rfl, rfl, (by show (0 : Int) < 1000; decide), l, _, _, rfl, rfl, upd_same, ?_, ?_⟩⟩
        · rw [List.length_map]
          exact Nat.lt_of_le_of_lt (by omega : ns.length ≤ 30) (by decide)
        · refine ⟨_, rfl, _, _, rfl, rfl, ⟨by decide, by decide⟩, ?_⟩
          refine ⟨_, _, ns ++ [r % 1000], rfl, ?_, by rw [List.length_append, hl1]; rfl, ?_⟩
          · rw [upd_upd, List.map_append]
            rfl
          · intro z hz
            rcases List.mem_append.mp hz with e | e
            · exact hl2 z e
            · rw [List.mem_singleton.mp e]
              omega
      · rintro σ H' ⟨r, v, ns, rfl, rfl, hl1, hl2⟩
        refine ⟨_, rfl, q ns _ l ⟨by omega, hl2⟩ (fun b o e => ?_) hl upd_same⟩
        rw [upd_ne (ne_of_none e hl)]
        exact e
    · refine ⟨_, rfl, _, _, rfl, rfl, .inr ⟨by decide, by decide⟩, ?_⟩
      refine ⟨_, rfl, _, _, rfl, rfl, .inr ⟨by decide, by decide⟩, _, _, rfl, rfl, _, _, rfl, rfl, .inl ⟨_, rfl, _, _, rfl, rfl, (by show (0 : Int) < 2147483647; decide), ?_⟩⟩
      refine ⟨_, rfl, (m : Int), rfl, by omega, by omega, for_range (n := ((m : Int)).toNat) (fun i σ H' => ∃ (r : Int) (v v2 : Option V) (ns : List Int), σ = [some (.int c), some (.int k), some (.int (m : Int)), some (.ref l), none, v, some (.int r), v2] ∧ 0 ≤ r ∧ r < 2147483647 ∧ H' = upd H l (.lst (ns.map V.int)) ∧ ns.length = i ∧ ∀ z ∈ ns, 0 ≤ z ∧ z < 1000)
        ⟨_, none, none, [], rfl, by omega, by omega, rfl, rfl, fun z hz => absurd hz (by simp)⟩ ?_ ?_⟩
      · rintro i σ H' hi ⟨r, v, v2, ns, rfl, r0, r1, rfl, hl1, hl2⟩
        refine ⟨_, rfl, _, _, rfl, rfl, .inr ⟨by decide, by decide⟩, ?_⟩
        refine ⟨_, rfl, _, _, rfl, rfl, .inr ⟨by decide, by decide⟩, _, _, rfl, rfl, _, _, rfl, rfl, .inl ⟨_, rfl, _, _, rfl, rfl, (by show (0 : Int) < 2147483647; decide), ?_⟩⟩
        refine ⟨_, rfl, _, rfl, _, _, rfl, rfl, .inl ⟨by omega, by omega⟩, ?_⟩
        refine ⟨_, rfl, _, _, rfl, rfl, .inr ⟨by decide, by decide⟩, _, _, rfl, rfl, _, rfl, _, _, rfl, rfl, .inl ⟨_, rfl, _, _, rfl, rfl, (by show (0 : Int) < 1000000007; decide), ?_⟩⟩
        refine ⟨_, rfl, .inl ⟨rfl, _, SqL.of upd_same⟩, _, rfl, _, _, rfl, rfl, ⟨by decide, by decide⟩, .inl ⟨_, rfl, _, _, rfl, rfl, (by show (0 : Int) < 1000; decide), l, _, _, rfl, rfl, upd_same, ?_, ?_⟩⟩
        · rw [List.length_map]
          exact Nat.lt_of_le_of_lt (by omega : ns.length ≤ 30) (by decide)
        · refine ⟨_, _, _, ns ++ [_], rfl, by omega, by omega, (by rw [upd_upd, List.map_append]; rfl), by rw [List.length_append, hl1]; rfl, ?_⟩
          intro z hz
          rcases List.mem_append.mp hz with e | e
          · exact hl2 z e
          · rw [List.mem_singleton.mp e]
            omega
      · rintro σ H' ⟨r, v, v2, ns, rfl, r0, r1, rfl, hl1, hl2⟩
        refine ⟨_, rfl, q ns _ l ⟨by omega, hl2⟩ (fun b o e => ?_) hl upd_same⟩
        rw [upd_ne (ne_of_none e hl)]
        exact e
theorem ok_lmachine (T : Txt K mg A) : FnOk P w K mg base CX0 1 A.a_law_machine A.d_law_machine ["numbers", "letters", "outs", "states"] (spLMachine K) := by
  refine T.F_law_machine.ok sc_law_machine (fun vs H Q E h => ?_) (fun cdv Ar outer s H vs Q E hr h => ?_)
  · obtain ⟨_, _, _, _, _, rfl, _⟩ := h
    rfl
  · obtain ⟨p, ns, k, o, n, rfl, hS, hN, k1, k3, o2, o3, n1, n5, fin⟩ := h
    refine ⟨_, (pss_cons (ps_set (i := 4) sc_law_machine.nd rfl (Or.inl rfl) (pe_lst pa_nil))
      (pss_cons (ps_set (i := 5) sc_law_machine.nd rfl (Or.inl rfl) (pe_lst pa_nil))
      (pss_cons (ps_for PassesOwn.never rfl (pi_range1 (by rfl) T.n_range (pa_cons (pv 3) pa_nil)) (pg_name (i := 6) sc_law_machine.nd rfl (Or.inl rfl))
        (pss_cons (ps_set (i := 7) sc_law_machine.nd rfl (Or.inl rfl) (pe_lst pa_nil))
          (pss_cons (ps_for PassesOwn.never rfl (pi_range1 (by rfl) T.n_range (pa_cons (pv 1) pa_nil)) (pg_name (i := 8) sc_law_machine.nd rfl (Or.inl rfl))
            (pss_one (ps_expr (pe_bm PySem.F.plainAttrs_list PySem.F.slot_list_append PySem.F.type_list_append mt_append (pv 7) (pa_cons (pe_op op_mod (pe_callTy call_int1 (by rfl) T.n_int (by decide +kernel) (pa_cons (pe_ix (r := rIx K) ix_seq (pv 0) (pe_op op_add (pe_op op_add pe_int (pe_op op_mul pe_int (pv 6))) (pv 8)) (fun _ _ => rfl)) pa_nil)) (pv 3)) pa_nil)))))
          (pss_cons (ps_expr (pe_bm PySem.F.plainAttrs_list PySem.F.slot_list_append PySem.F.type_list_append mt_append (pv 4) (pa_cons (pe_callTy call_tuple_of (by rfl) T.n_tuple (by decide +kernel) (pa_cons (pv 7) pa_nil)) pa_nil)))
          (pss_one (ps_expr (pe_bm PySem.F.plainAttrs_list PySem.F.slot_list_append PySem.F.type_list_append mt_append (pv 5) (pa_cons (pe_op op_mod (pe_callTy call_int1 (by rfl) T.n_int (by decide +kernel) (pa_cons (pe_ix (r := rIx K) ix_seq (pv 0) (pe_op op_mul pe_int (pv 6)) (fun _ _ => rfl)) pa_nil)) (pv 2)) pa_nil))))))))
      (pss_one (ps_ret (pe_tup (pa_cons (pv 1) (pa_cons (pv 2) (pa_cons (pe_callTy call_tuple_of (by rfl) T.n_tuple (by decide +kernel) (pa_cons (pv 4) pa_nil)) (pa_cons (pe_callTy call_tuple_of (by rfl) T.n_tuple (by decide +kernel) (pa_cons (pv 5) pa_nil)) pa_nil)))))))))), ?_⟩
    refine ⟨Nat.zero_le _, fun l1 hl1 => ?_⟩
    refine ⟨Nat.zero_le _, fun l2 hl2 => ?_⟩
    have l21 : l2 ≠ l1 := fun z => by
      rw [z, upd_same] at hl2
      cases hl2
    have s1 : Same H (upd H l1 (.lst [])) := same_upd (Same.refl H) hl1
    have s2 : Same H (upd (upd H l1 (.lst [])) l2 (.lst [])) := same_upd s1 hl2
    have hl20 : H l2 = none := s1.free hl2
    refine ⟨_, rfl, n, rfl, by omega, by omega, for_range (n := (n).toNat) (fun j σ H' => ∃ (rs : List Addr) (rows : List (List Int)) (os : List Int) (v6 v7 v8 : Option V), σ = [some (.ref p), some (.int k), some (.int o), some (.int n), some (.ref l1), some (.ref l2), v6, v7, v8] ∧ Same H H' ∧ H' l1 = some (.lst (rs.map V.ref)) ∧ H' l2 = some (.lst (os.map V.int)) ∧
        TupL H' rs rows ∧ rows.length = j ∧ os.length = j ∧ (∀ w ∈ rows, (w.length : Int) = k) ∧ (∀ w ∈ rows, ∀ z ∈ w, 0 ≤ z ∧ z < n) ∧ (∀ z ∈ os, 0 ≤ z ∧ z < o))
      ⟨[], [], [], none, none, none, rfl, s2, (by rw [upd_ne l21.symm]; exact upd_same), upd_same, TupL.nil, rfl, rfl, (fun w hw => absurd hw (by simp)), (fun w hw => absurd hw (by simp)), fun z hz => absurd hz (by simp)⟩ ?_ ?_⟩
    · rintro j σ H' hj ⟨rs, rows, os, v6, v7, v8, rfl, s3, e1, e2, t3, c1, c2, c3, c4, c5⟩
      refine ⟨Nat.zero_le _, fun D hD => ?_⟩
      have Dl1 : D ≠ l1 := fun z => by
        rw [z, e1] at hD
        cases hD
      have Dl2 : D ≠ l2 := fun z => by
        rw [z, e2] at hD
        cases hD
      refine ⟨_, rfl, k, rfl, by omega, by omega, for_range (n := (k).toNat) (fun a σ H1 => ∃ (w : List Int) (v8 : Option V), σ = [some (.ref p), some (.int k), some (.int o), some (.int n), some (.ref l1), some (.ref l2), some (.int (0 + (j : Int))), some (.ref D), v8] ∧ Same H' H1 ∧ H1 D = some (.lst (w.map V.int)) ∧ w.length = a ∧ ∀ z ∈ w, 0 ≤ z ∧ z < n)
        ⟨[], _, rfl, same_upd (Same.refl _) hD, upd_same, rfl, fun z hz => absurd hz (by simp)⟩ ?_ ?_⟩
      · rintro a σ H1 ha ⟨w1, v8, rfl, s4, e4, d1, d2⟩
        have s34 := s3.trans s4
        obtain ⟨z, hz, az⟩ := atI_int (ns := ns) (i := 1 + 5 * (0 + (j : Int)) + (0 + (a : Int))) (by omega) (by rw [hN.1]; omega)
        refine ⟨_, rfl, .inl ⟨rfl, _, SqL.of e4⟩, ?_⟩
        refine ⟨_, rfl, _, rfl, _, _, rfl, rfl, .inl ⟨by decide, by decide⟩, _, _, rfl, rfl, _, rfl, _, _, rfl, rfl, .inl ⟨p, _, _, _, rfl, rfl, s34.seq hS, az, ?_⟩⟩
        refine .inl ⟨_, rfl, _, rfl, _, _, rfl, rfl, (by show 0 < n; omega), D, _, _, rfl, rfl, e4, ?_, ?_⟩
        · rw [List.length_map]
          exact Nat.lt_of_le_of_lt (by omega : w1.length ≤ 4) (by decide)
        refine ⟨w1 ++ [_], _, rfl, same_set s4 hD, (by rw [upd_same, List.map_append]; rfl), by rw [List.length_append, d1]; rfl, fun y hy => ?_⟩
        rcases List.mem_append.mp hy with e | e
        · exact d2 y e
        · rw [List.mem_singleton.mp e]
          exact ⟨Int.emod_nonneg _ (by omega), Int.emod_lt_of_pos _ (by omega)⟩
      · rintro σ H1 ⟨w1, v8, rfl, s4, e4, d1, d2⟩
        have s34 := s3.trans s4
        refine ⟨_, rfl, .inl ⟨rfl, _, SqL.of (s4 _ _ e1)⟩, ?_⟩
        refine ⟨_, rfl, D, _, rfl, .inl ⟨SqL.of e4, fun r hr' => ?_⟩⟩
        have s5 := same_upd (o := .tup (w1.map V.int)) (Same.refl H1) hr'
        have er : (upd H1 r (.tup (w1.map V.int))) r = some (.tup (w1.map V.int)) := upd_same
        generalize upd H1 r (.tup (w1.map V.int)) = H2 at *
        have s35 := s34.trans s5
        have e15 := s5 _ _ (s4 _ _ e1)
        have e25 := s5 _ _ (s4 _ _ e2)
        have t5 := (t3.same s4).same s5
        have lr := t5.1
        refine ⟨l1, _, _, rfl, rfl, e15, ?_, ?_⟩
        · rw [List.length_map]
          exact Nat.lt_of_le_of_lt (by omega : rs.length ≤ 30) (by decide)
        have t6 := t5.push (o := .lst (rs.map V.ref ++ [V.ref r])) e15 er
        have e16 : (upd H2 l1 (.lst (rs.map V.ref ++ [V.ref r]))) l1 = some (.lst ((rs ++ [r]).map V.ref)) := by rw [upd_same, List.map_append]; rfl
        have e26 : (upd H2 l1 (.lst (rs.map V.ref ++ [V.ref r]))) l2 = some (.lst (os.map V.int)) := by rw [upd_ne l21]; exact e25
        have s36 := same_set (o := .lst (rs.map V.ref ++ [V.ref r])) s35 hl1
        generalize upd H2 l1 (.lst (rs.map V.ref ++ [V.ref r])) = H3 at *
        obtain ⟨z, hz, az⟩ := atI_int (ns := ns) (i := 5 * (0 + (j : Int))) (by omega) (by rw [hN.1]; omega)
        refine ⟨_, rfl, .inl ⟨rfl, _, SqL.of e26⟩, ?_⟩
        refine ⟨_, rfl, _, rfl, _, _, rfl, rfl, .inl ⟨by decide, by decide⟩, .inl ⟨p, _, _, _, rfl, rfl, s36.seq hS, az, ?_⟩⟩
        refine .inl ⟨_, rfl, _, rfl, _, _, rfl, rfl, (by show 0 < o; omega), l2, _, _, rfl, rfl, e26, ?_, ?_⟩
        · rw [List.length_map]
          exact Nat.lt_of_le_of_lt (by omega : os.length ≤ 30) (by decide)
        refine ⟨rs ++ [r], rows ++ [w1], os ++ [z % o], _, _, _, rfl, same_set s36 hl20, (by rw [upd_ne l21.symm]; exact e16), by rw [upd_same, List.map_append]; rfl, ?_, by rw [List.length_append, c1]; rfl, by rw [List.length_append, c2]; rfl, fun y hy => ?_, fun y hy => ?_, fun y hy => ?_⟩
        · refine ⟨t6.1, fun i a u h1 h2 => ?_⟩
          have q := t6.2 i a u h1 h2
          exact (upd_ne fun y => by
            unfold IT at q
            rw [y, e26] at q
            cases q).trans q
        · rcases List.mem_append.mp hy with e | e
          · exact c3 y e
          · rw [List.mem_singleton.mp e, d1]
            omega
        · rcases List.mem_append.mp hy with e | e
          · exact c4 y e
          · rw [List.mem_singleton.mp e]
            exact d2
        · rcases List.mem_append.mp hy with e | e
          · exact c5 y e
          · rw [List.mem_singleton.mp e]
            exact ⟨Int.emod_nonneg _ (by omega), Int.emod_lt_of_pos _ (by omega)⟩
    · rintro σ H' ⟨rs, rows, os, v6, v7, v8, rfl, s3, e1, e2, t3, c1, c2, c3, c4, c5⟩
      refine ⟨_, rfl, _, rfl, _, rfl, l1, _, rfl, .inl ⟨SqL.of e1, fun mv hmv => ?_⟩⟩
      have s4 := same_upd (o := .tup (rs.map V.ref)) (Same.refl H') hmv
      have emv : (upd H' mv (.tup (rs.map V.ref))) mv = some (.tup (rs.map V.ref)) := upd_same
      generalize upd H' mv (.tup (rs.map V.ref)) = H1 at *
      refine ⟨_, rfl, l2, _, rfl, .inl ⟨SqL.of (s4 _ _ e2), fun ou hou => ?_⟩⟩
      have s5 := same_upd (o := .tup (os.map V.int)) (Same.refl H1) hou
      have eou : (upd H1 ou (.tup (os.map V.int))) ou = some (.tup (os.map V.int)) := upd_same
      generalize upd H1 ou (.tup (os.map V.int)) = H2 at *
      refine ⟨(by show 4 ≤ sizeLine; decide), fun m hm => ?_⟩
      have s6 := same_upd (o := .tup [.int k, .int o, .ref mv, .ref ou]) (Same.refl H2) hm
      have em : (upd H2 m (.tup [.int k, .int o, .ref mv, .ref ou])) m = some (.tup [.int k, .int o, .ref mv, .ref ou]) := upd_same
      have s46 := (s4.trans s5).trans s6
      refine fin ⟨k, o, rows, os⟩ _ m ⟨by show 1 ≤ k; omega, by show k ≤ 4; omega, by show 1 ≤ o; omega, by show o ≤ 6; omega, by show 1 ≤ rows.length; omega, by show rows.length ≤ 30; omega, by show os.length = rows.length; omega, c3, fun w hw z hz => ?_, c5⟩ rfl rfl (by show (rows.length : Int) = n; omega) (s3.trans s46) ⟨mv, ou, rs, em, (s5.trans s6) _ _ emv, s6 _ _ eou, t3.1, fun i r w h1 h2 => s46 _ _ (t3.2 i r w h1 h2)⟩
      have q := c4 w hw z hz
      have e : ((rows.length : Nat) : Int) = n := by omega
      exact ⟨q.1, by show z < ((rows.length : Nat) : Int); omega⟩
theorem ok_state (T : Txt K mg A) : FnOk P w K mg base CX0 1 A.a_law_state A.d_law_state ["machine", "word"] (spState K) := by
  refine T.F_law_state.ok sc_law_state (fun vs H Q E h => ?_) (fun cdv Ar outer s H vs Q E hr h => ?_)
  · obtain ⟨_, _, _, _, rfl, _⟩ := h
    rfl
  · obtain ⟨m, a, M, ns, rfl, ⟨mv, ou, rs, hM⟩, g, hS, hL, fin⟩ := h
    refine ⟨_, (pss_cons (ps_set (i := 2) sc_law_state.nd rfl (Or.inl rfl) pe_int)
      (pss_cons (ps_for PassesOwn.never rfl (pi_list (pv 1)) (pg_name (i := 3) sc_law_state.nd rfl (Or.inl rfl))
        (pss_one (ps_set (i := 2) sc_law_state.nd rfl (Or.inl rfl) (pe_ix (r := rIx K) ix_seq (pe_ix (r := rIx K) ix_seq (pe_ix (r := rIx K) ix_seq (pv 0) pe_int (fun _ _ => rfl)) (pv 2) (fun _ _ => rfl)) (pv 3) (fun _ _ => rfl)))))
      (pss_one (ps_ret (pv 2))))), ?_⟩
    refine ⟨_, rfl, a, rfl, ⟨_, hS⟩, for_list (K := K) (a := a) (xs := ns.map V.int) (fun i σ H' => ∃ v : Option V, σ = [some (.ref m), some (.ref a), some (.int (M.run 0 (ns.take i))), v] ∧ H' = H ∧ M.St (M.run 0 (ns.take i)))
      ⟨none, rfl, rfl, g.st0⟩ (fun i σ H' _ ⟨_, _, e, _⟩ => by rw [e]; exact hS) ?_ ?_⟩
    · rintro i y σ H' hi ⟨v, rfl, rfl, st⟩
      obtain ⟨z, hz, rfl⟩ := ofV hi
      have zl := hL z (List.mem_of_getElem? hz)
      obtain ⟨st2, w1, e1, e2⟩ := g.step st zl.1 zl.2
      obtain ⟨r, f1, f2⟩ := hM.rowAt st.1 e1
      refine ⟨_, rfl, .inr (.inl ⟨m, _, 2, .ref mv, rfl, rfl, SqT.of hM.top, rfl, ?_⟩)⟩
      refine ⟨_, rfl, .inr (.inl ⟨mv, _, _, _, rfl, rfl, SqT.of hM.mv, f1, ?_⟩)⟩
      refine ⟨_, rfl, .inr (.inl ⟨r, _, _, _, rfl, rfl, SqT.of f2, atI_get? zl.1 e2, ?_⟩)⟩
      rw [take_more hz, run_snoc]
      exact ⟨_, rfl, rfl, st2⟩
    · rintro σ H' ⟨v, rfl, rfl, st⟩
      rw [List.length_map, List.take_length]
      exact ⟨_, rfl, fin⟩
theorem ok_output (T : Txt K mg A) : FnOk P w K mg base CX0 2 A.a_law_output A.d_law_output ["machine", "word"] (spOutput K) := by
  have G_law_state : FnOk P w K mg base CX0 1 A.a_law_state A.d_law_state ["machine", "word"] (spState K) := ok_state T
  refine T.F_law_output.ok sc_law_output (fun vs H Q E h => ?_) (fun cdv Ar outer s H vs Q E hr h => ?_)
  · obtain ⟨_, _, _, _, rfl, _⟩ := h
    rfl
  · obtain ⟨m, a, M, ns, rfl, ⟨mv, ou, rs, hM⟩, g, hS, hL, fin⟩ := h
    have hr_law_state : Room 1 _ := hr
    refine ⟨_, (pss_one (ps_ret (pe_ix (r := rIx K) ix_seq (pe_ix (r := rIx K) ix_seq (pv 0) pe_int (fun _ _ => rfl)) (pe_call G_law_state hr_law_state (by rfl) T.g_law_state T.F_law_state.kp T.b_law_state .nil pass0 (pa_cons (pv 0) (pa_cons (pv 1) pa_nil))) (fun _ _ => rfl)))), ?_⟩
    have stU := g.runs g.st0 hL
    refine ⟨_, rfl, .inr (.inl ⟨m, _, 3, .ref ou, rfl, rfl, SqT.of hM.top, rfl, ?_⟩)⟩
    refine ⟨_, rfl, _, rfl, m, a, M, ns, rfl, ⟨mv, ou, rs, hM⟩, g, hS, hL, ?_⟩
    exact .inr (.inl ⟨ou, _, _, _, rfl, rfl, SqT.of hM.ou, atI_get? stU.1 (g.outp stU).1, fin⟩)
end
end K11

set_option Elab.async false
set_option linter.all false
set_option maxRecDepth 100000
set_option maxHeartbeats 4000000
namespace K11
open PySem PySem.Spec PyProof.Rows L2 Mz
/-- a row by the machine itself -/
def rowM (M : Mach) (T : List (List Int)) (w : List Int) : List Int := T.map fun t => ansM M (w ++ t)
def spLRows : Sp := fun vs H Q _ => ∃ (a : Addr) (ts : List Addr) (S : List (List Int)) (L : Nat), vs = [.ref a, .int (L : Int)] ∧ H a = some (.lst (ts.map V.ref)) ∧ LL H ts S ∧ 1 ≤ L ∧ L ≤ 4 ∧ S.length ≤ 100 ∧ (∀ w ∈ S, w.length ≤ 1000) ∧
  ∀ (H' : Hp) (q : Addr) (us : List Addr), Same H H' → H' q = some (.lst (us.map V.ref)) → LL H' us (rowsOf L S) → (∀ u ∈ us, u ∈ ts ∨ H u = none) → Q (.ref q) H'
def spLWanted : Sp := fun vs H Q _ => ∃ (a b kd : Addr) (ts us : List Addr) (S T : List (List Int)) (L : Nat) (kn : List (List Int × Int)), vs = [.ref a, .ref b, .int (L : Int), .ref kd] ∧ H a = some (.lst (ts.map V.ref)) ∧ LL H ts S ∧ H b = some (.lst (us.map V.ref)) ∧ LL H us T ∧ Small L S T ∧ H kd = some (.dT (kvsO kn)) ∧
  (dueOf kn L S T = none → ∀ H', Same H H' → Q .non H') ∧ (∀ w, dueOf kn L S T = some w → ∀ (H' : Hp) (q : Addr), Same H H' → H q = none → H' q = some (.lst (w.map V.int)) → Q (.ref q) H')
def spLRow (K : PySem.W.Frag) : Sp := fun vs H Q _ => ∃ (m a b : Addr) (M : Mach) (us : List Addr) (w : List Int) (T : List (List Int)), vs = [.ref m, .ref a, .ref b] ∧ MA H m M ∧ Good M ∧ H a = some (.lst (w.map V.int)) ∧ H b = some (.lst (us.map V.ref)) ∧ LL H us T ∧ w.length ≤ 1001 ∧ T.length ≤ 100 ∧ (∀ t ∈ T, t.length ≤ 1000) ∧ Lt M.ls w ∧ (∀ t ∈ T, Lt M.ls t) ∧
  ∀ (H' : Hp) (q : Addr), Same H H' → H q = none → H' q = some (.lst ((rowM M T w).map V.int)) → Q (.ref q) H'
theorem rows_len {L : Nat} {S : List (List Int)} {T : List (List Int)} (sm : Small L S T) {r : List Int} (h : r ∈ rowsOf L S) : r.length ≤ 1001 := by
  rcases List.mem_append.mp h with z | z
  · have := sm.ss r z; omega
  · obtain ⟨u, hu, hw⟩ := List.mem_flatMap.mp (List.mem_filter.mp z).1
    obtain ⟨b, _, rfl⟩ := List.mem_map.mp hw
    have := sm.ss u hu
    rw [List.length_append]
    show u.length + 1 ≤ 1001
    omega
theorem rows_few {L : Nat} {S : List (List Int)} (hL : L ≤ 4) (hS : S.length ≤ 100) : (rowsOf L S).length ≤ 500 := by
  unfold rowsOf
  have h1 := List.length_filter_le (fun w => decide (w ∉ S)) (S.flatMap (moreW L))
  have h2 : (S.flatMap (moreW L)).length ≤ 400 := by
    rw [flat_len]
    exact Nat.mul_le_mul hS hL
  rw [List.length_append]
  omega
section
variable {P : Program} {w : World} {K : PySem.W.Frag} {mg : Str → Option Value} {base : Heap} {A : Ads}
theorem ok_lrows (T : Txt K mg A) : FnOk P w K mg base CX0 1 A.a_law_rows A.d_law_rows ["states", "letters"] spLRows := by
  refine T.F_law_rows.ok sc_law_rows (fun vs H Q E h => ?_) (fun cdv Ar outer s H vs Q E hr h => ?_)
  · obtain ⟨_, _, _, _, rfl, _⟩ := h
    rfl
  · obtain ⟨a, ts, S, L, rfl, ha, hl, L1, L4, few, short, fin⟩ := h
    refine ⟨_, (pss_cons (ps_set (i := 2) sc_law_rows.nd rfl (Or.inl rfl) (pe_callTy call_list_of (by rfl) T.n_list (by decide +kernel) (pa_cons (pv 0) pa_nil)))
      (pss_cons (ps_for PassesOwn.never rfl (pi_list (pv 0)) (pg_name (i := 3) sc_law_rows.nd rfl (Or.inl rfl))
        (pss_one (ps_for PassesOwn.never rfl (pi_range1 (by rfl) T.n_range (pa_cons (pv 1) pa_nil)) (pg_name (i := 4) sc_law_rows.nd rfl (Or.inl rfl))
            (pss_one (ps_if (pt_cmpR (op_notInD (hu65 hr)) (pe_op op_cat (pv 3) (pe_lst (pa_cons (pv 4) pa_nil))) (pv 0) rfl) (pss_one (ps_expr (pe_bm PySem.F.plainAttrs_list PySem.F.slot_list_append PySem.F.type_list_append mt_append (pv 2) (pa_cons (pe_op op_cat (pv 3) (pe_lst (pa_cons (pv 4) pa_nil))) pa_nil)))) pss_nil)))))
      (pss_one (ps_ret (pv 2))))), ?_⟩
    refine ⟨_, rfl, a, _, rfl, .inl (SqL.of ha), fun q hq => ?_⟩
    have s1 := same_upd (o := .lst (ts.map V.ref)) (Same.refl H) hq
    have eq1 : (upd H q (.lst (ts.map V.ref))) q = some (.lst (ts.map V.ref)) := upd_same
    generalize upd H q (.lst (ts.map V.ref)) = H1 at *
    have qa : q ≠ a := fun z => by
      rw [z, ha] at hq
      cases hq
    refine ⟨_, rfl, a, rfl, ⟨_, SqL.of (s1 _ _ ha)⟩, for_list (K := K) (a := a) (xs := ts.map V.ref) (fun i σ H' => ∃ (v3 v4 : Option V) (us : List Addr), σ = [some (.ref a), some (.int (L : Int)), some (.ref q), v3, v4] ∧ Same H H' ∧ H' q = some (.lst ((ts ++ us).map V.ref)) ∧ LL H' us (((S.take i).flatMap (moreW L)).filter fun w => decide (w ∉ S)) ∧ ∀ u ∈ us, H u = none)
      ⟨none, none, [], rfl, s1, by rw [List.append_nil]; exact eq1, ⟨rfl, fun i a w h => by simp at h⟩, fun u h => by simp at h⟩ (fun i σ H' _ ⟨_, _, _, _, z, _⟩ => SqL.of (z _ _ ha)) ?_ ?_⟩
    · rintro i y σ H2 hy ⟨v3, v4, us, rfl, s2, e2, l2, fr⟩
      obtain ⟨t, ht, rfl⟩ := ofV hy
      have il : i < S.length := by rw [← hl.1]; exact (List.getElem?_eq_some_iff.mp ht).1
      have ew := List.getElem?_eq_getElem il
      have et0 := hl.2 i t _ ht ew
      generalize S[i] = w at *
      have wl := short w (List.mem_of_getElem? ew)
      refine ⟨_, rfl, (L : Int), rfl, by omega, by omega, for_range (n := ((L : Int)).toNat) (fun a' σ H' => ∃ (v4 : Option V) (us : List Addr), σ = [some (.ref a), some (.int (L : Int)), some (.ref q), some (.ref t), v4] ∧ Same H H' ∧ H' q = some (.lst ((ts ++ us).map V.ref)) ∧ LL H' us (((S.take i).flatMap (moreW L) ++ (List.range a').map fun a : Nat => w ++ [(a : Int)]).filter fun w => decide (w ∉ S)) ∧ ∀ u ∈ us, H u = none)
        ⟨v4, us, rfl, s2, e2, by rw [List.range_zero, List.map_nil, List.append_nil]; exact l2, fr⟩ ?_ ?_⟩
      · clear e2 l2 fr us
        rintro b σ H3 hb ⟨v4, us, rfl, s3, e3, l3, fr⟩
        have ea : (0 : Int) + (b : Int) = (b : Int) := by omega
        rw [ea]
        have ht3 := s3 _ _ et0
        have room : (w.map V.int).length + ([V.int (b : Int)] : List V).length ≤ sizeLine := by
          rw [List.length_map]
          exact Nat.le_of_lt (Nat.lt_of_le_of_lt (by show w.length + 1 ≤ 1001; omega) (by decide))
        refine ⟨_, rfl, _, rfl, (by show 1 ≤ sizeLine; decide), fun x1 hx1 => ?_⟩
        have s4 := same_upd (o := .lst [.int (b : Int)]) (Same.refl H3) hx1
        have e4 : (upd H3 x1 (.lst [.int (b : Int)])) x1 = some (.lst [.int (b : Int)]) := upd_same
        generalize upd H3 x1 (.lst [.int (b : Int)]) = H4 at *
        refine ⟨t, x1, _, _, rfl, rfl, s4 _ _ ht3, e4, room, fun x2 hx2 => ?_⟩
        have s5 := same_upd (o := .lst (w.map V.int ++ [.int (b : Int)])) s4 hx2
        have e5 : (upd H4 x2 (.lst (w.map V.int ++ [.int (b : Int)]))) x2 = some (.lst ((w ++ [(b : Int)]).map V.int)) := by rw [upd_same, List.map_append]; rfl
        generalize upd H4 x2 (.lst (w.map V.int ++ [.int (b : Int)])) = H5 at *
        have s05 := s3.trans s5
        have l5 := l3.same s5
        have pick : ((S.take i).flatMap (moreW L) ++ (List.range (b + 1)).map fun a : Nat => w ++ [(a : Int)]).filter (fun w => decide (w ∉ S)) = ((S.take i).flatMap (moreW L) ++ (List.range b).map fun a : Nat => w ++ [(a : Int)]).filter (fun w => decide (w ∉ S)) ++ (if w ++ [(b : Int)] ∈ S then [] else [w ++ [(b : Int)]]) := by
          rw [List.range_succ, List.map_append, ← List.append_assoc, List.filter_append]
          congr 1
          by_cases c : w ++ [(b : Int)] ∈ S
          · simp [c]
          · simp [c]
        refine ⟨_, rfl, notin_ll e5 (s05 _ _ ha) (hl.same s05) ⟨_, rfl, iteN2 (fun nin => ?_) (fun inn => ?_)⟩⟩
        · refine ⟨_, rfl, .inl ⟨rfl, _, SqL.of (s5 _ _ e3)⟩, ?_⟩
          refine ⟨_, rfl, _, rfl, (by show 1 ≤ sizeLine; decide), fun x3 hx3 => ?_⟩
          have s6 := same_upd (o := .lst [.int (b : Int)]) s5 hx3
          have e6 : (upd H5 x3 (.lst [.int (b : Int)])) x3 = some (.lst [.int (b : Int)]) := upd_same
          have l6 := l5.same (same_upd (o := .lst [.int (b : Int)]) (Same.refl H5) hx3)
          generalize upd H5 x3 (.lst [.int (b : Int)]) = H6 at *
          refine ⟨t, x3, _, _, rfl, rfl, s6 _ _ ht3, e6, room, fun x4 hx4 => ?_⟩
          have s7 := same_upd (o := .lst (w.map V.int ++ [.int (b : Int)])) s6 hx4
          have e7 : (upd H6 x4 (.lst (w.map V.int ++ [.int (b : Int)]))) x4 = some (.lst ((w ++ [(b : Int)]).map V.int)) := by rw [upd_same, List.map_append]; rfl
          have l7 := l6.same (same_upd (o := .lst (w.map V.int ++ [.int (b : Int)])) (Same.refl H6) hx4)
          have h40 := (s3.trans s6).free hx4
          generalize upd H6 x4 (.lst (w.map V.int ++ [.int (b : Int)])) = H7 at *
          have eq7 := s7 _ _ e3
          have x4q : x4 ≠ q := fun z => by
            rw [z, s6 _ _ e3] at hx4
            cases hx4
          have lu := l7.1
          have lf := List.length_filter_le (fun w => decide (w ∉ S)) ((S.take i).flatMap (moreW L) ++ (List.range b).map fun a : Nat => w ++ [(a : Int)])
          rw [← lu, List.length_append, flat_len, List.length_take, List.length_map, List.length_range] at lf
          refine ⟨q, _, _, rfl, rfl, eq7, ?_, ?_⟩
          · rw [List.length_map, List.length_append, hl.1]
            have h1 : min i S.length * L ≤ 100 * 4 := Nat.mul_le_mul (by omega) L4
            have hb' : b < L := by simpa using hb
            exact Nat.lt_of_le_of_lt (by omega : S.length + us.length ≤ 1000) (by decide)
          refine ⟨_, us ++ [x4], rfl, same_set (s3.trans s7) hq, (by rw [upd_same, List.map_append, List.map_append, List.map_append, List.append_assoc]; rfl), ?_, fun u hu => ?_⟩
          · rw [pick, if_neg nin]
            refine ⟨by rw [List.length_append, List.length_append, lu]; rfl, fun i a u h1 h2 => ?_⟩
            have q7 : H7 a = some (.lst (u.map V.int)) := by
              by_cases c : i < us.length
              · rw [List.getElem?_append_left c] at h1
                rw [List.getElem?_append_left (by omega)] at h2
                exact l7.2 i a u h1 h2
              · rw [List.getElem?_append_right (by omega)] at h1
                rw [List.getElem?_append_right (by omega), ← lu] at h2
                obtain ⟨z1, z2⟩ := List.getElem?_eq_some_iff.mp h1
                have z0 : i - us.length = 0 := by simp at z1; omega
                rw [z0] at h1 h2
                cases h1
                cases h2
                exact e7
            refine (upd_ne fun z => ?_).trans q7
            have h1m := List.mem_of_getElem? h1
            rw [z] at h1m
            rcases List.mem_append.mp h1m with y | y
            · rw [z, eq7] at q7
              have e8 : (ts ++ us).map V.ref = u.map V.int := HO.lst.inj (Option.some.inj q7)
              have m8 : V.ref q ∈ u.map V.int := by
                rw [← e8]
                exact List.mem_map.mpr ⟨q, List.mem_append_right _ y, rfl⟩
              obtain ⟨_, _, e9⟩ := List.mem_map.mp m8
              cases e9
            · exact x4q (List.mem_singleton.mp y).symm
          · rcases List.mem_append.mp hu with y | y
            · exact fr u y
            · rw [List.mem_singleton.mp y]
              exact h40
        · refine ⟨_, us, rfl, s05, s5 _ _ e3, ?_, fr⟩
          rw [pick, if_pos inn, List.append_nil]
          exact l5
      · rintro σ H3 ⟨v4, us, rfl, s3, e3, l3, fr⟩
        have nL : ((L : Int)).toNat = L := by omega
        rw [nL] at l3
        refine ⟨_, _, us, rfl, s3, e3, ?_, fr⟩
        rw [take_more ew, List.flatMap_append, List.flatMap_cons, List.flatMap_nil, List.append_nil]
        exact l3
    · rintro σ H2 ⟨v3, v4, us, rfl, s2, e2, l2, fr⟩
      rw [List.length_map, hl.1, List.take_length] at l2
      refine ⟨_, rfl, fin H2 q (ts ++ us) s2 e2 ?_ fun u hu => (List.mem_append.mp hu).imp id (fr u)⟩
      have h1 := hl.same s2
      refine ⟨by unfold rowsOf; rw [List.length_append, List.length_append, h1.1, l2.1], fun i b w p1 p2 => ?_⟩
      unfold rowsOf at p2
      have lb := h1.1
      by_cases c : i < ts.length
      · rw [List.getElem?_append_left c] at p1
        rw [List.getElem?_append_left (by omega)] at p2
        exact h1.2 i b w p1 p2
      · rw [List.getElem?_append_right (by omega)] at p1
        rw [List.getElem?_append_right (by omega), ← lb] at p2
        exact l2.2 _ b w p1 p2
theorem ok_lwanted (T : Txt K mg A) : FnOk P w K mg base CX0 2 A.a_law_wanted A.d_law_wanted ["states", "columns", "letters", "known"] spLWanted := by
  have G_law_rows : FnOk P w K mg base CX0 1 A.a_law_rows A.d_law_rows ["states", "letters"] spLRows := ok_lrows T
  refine T.F_law_wanted.ok sc_law_wanted (fun vs H Q E h => ?_) (fun cdv Ar outer s H vs Q E hr h => ?_)
  · obtain ⟨_, _, _, _, _, _, _, _, _, rfl, _⟩ := h
    rfl
  · have hr_law_rows : Room 1 _ := hr
    refine ⟨_, (pss_cons (ps_for PassesOwn.never rfl (pi_list (pe_call G_law_rows hr_law_rows (by rfl) T.g_law_rows T.F_law_rows.kp T.b_law_rows .nil pass0 (pa_cons (pv 0) (pa_cons (pv 2) pa_nil)))) (pg_name (i := 4) sc_law_wanted.nd rfl (Or.inl rfl))
        (pss_one (ps_for PassesOwn.never rfl (pi_list (pv 1)) (pg_name (i := 5) sc_law_wanted.nd rfl (Or.inl rfl))
            (pss_one (ps_if (pt_cmp (pc_dnotin (hu_of hr) (pe_callTy call_tuple_of (by rfl) T.n_tuple (by decide +kernel) (pa_cons (pe_op op_cat (pv 4) (pv 5)) pa_nil)) (pv 3))) (pss_one (ps_ret (pe_op op_cat (pv 4) (pv 5)))) pss_nil)))))
      (pss_one (ps_ret pe_non))), ?_⟩
    obtain ⟨a, b, kd, ts, us, S, Tl, L, kn, rfl, ha, hl, hb, hu, sm, hk, f0, f1⟩ := h
    refine ⟨_, rfl, _, rfl, a, ts, S, L, rfl, ha, hl, sm.l1, sm.l4, sm.s100, sm.ss, fun H1 q rs s1 eq rl rf => ?_⟩
    refine ⟨q, rfl, ⟨_, SqL.of eq⟩, for_list (K := K) (a := q) (xs := rs.map V.ref) (fun i σ H' => ∃ v4 v5 : Option V, σ = [some (.ref a), some (.ref b), some (.int (L : Int)), some (.ref kd), v4, v5] ∧ Same H1 H' ∧ ∀ r ∈ (rowsOf L S).take i, ∀ t ∈ Tl, toldOf kn (r ++ t) ≠ none)
      ⟨_, _, rfl, Same.refl _, fun w h => by simp at h⟩ (fun i σ H' _ ⟨_, _, _, z, _⟩ => SqL.of (z _ _ eq)) ?_ ?_⟩
    · rintro i y σ H2 hy ⟨v4, v5, rfl, s2, al⟩
      obtain ⟨t, ht, rfl⟩ := ofV hy
      have il : i < (rowsOf L S).length := by rw [← rl.1]; exact (List.getElem?_eq_some_iff.mp ht).1
      have ew := List.getElem?_eq_getElem il
      have et := s2 _ _ (rl.2 i t _ ht ew)
      generalize hr0 : (rowsOf L S)[i] = r at *
      have wR := List.mem_of_getElem? ew
      have s02 := s1.trans s2
      have wl := rows_len sm wR
      have hb2 := s02 _ _ hb
      refine ⟨_, rfl, b, rfl, ⟨_, SqL.of hb2⟩, for_list (K := K) (a := b) (xs := us.map V.ref) (fun j σ H' => ∃ v5 : Option V, σ = [some (.ref a), some (.ref b), some (.int (L : Int)), some (.ref kd), some (.ref t), v5] ∧ Same H2 H' ∧ ∀ u ∈ Tl.take j, toldOf kn (r ++ u) ≠ none)
        ⟨v5, rfl, Same.refl _, fun u hu => by simp at hu⟩ (fun i σ H' _ ⟨_, _, z, _⟩ => SqL.of (z _ _ hb2)) ?_ ?_⟩
      · rintro j y σ H3 hy2 ⟨v5, rfl, s3, al3⟩
        obtain ⟨c, hc, rfl⟩ := ofV hy2
        have jl : j < Tl.length := by rw [← hu.1]; exact (List.getElem?_eq_some_iff.mp hc).1
        have eu := List.getElem?_eq_getElem jl
        have s03 := s02.trans s3
        have ec := s03 _ _ (hu.2 j c _ hc eu)
        have eu0 := eu
        generalize Tl[j] = u at *
        have ul := sm.ts u (List.mem_of_getElem? eu)
        have et3 := s3 _ _ et
        have room : (r.map V.int).length + (u.map V.int).length ≤ sizeLine := by
          rw [List.length_map, List.length_map]
          exact Nat.le_of_lt (Nat.lt_of_le_of_lt (by omega : r.length + u.length ≤ 4000) (by decide))
        refine ⟨_, rfl, _, rfl, t, c, _, _, rfl, rfl, et3, ec, room, fun x hx => ?_⟩
        have s4 := same_upd (o := .lst (r.map V.int ++ u.map V.int)) s3 hx
        have e4 : (upd H3 x (.lst (r.map V.int ++ u.map V.int))) x = some (.lst ((r ++ u).map V.int)) := by rw [upd_same, List.map_append]
        generalize upd H3 x (.lst (r.map V.int ++ u.map V.int)) = H4 at *
        refine ⟨x, _, rfl, .inl ⟨SqL.of e4, fun l hl' => ?_⟩⟩
        have s5 := same_upd (o := .tup ((r ++ u).map V.int)) s4 hl'
        have e5 : (upd H4 l (.tup ((r ++ u).map V.int))) l = some (.tup ((keyW (r ++ u)).map kV)) := by rw [keyW_V, upd_same]
        generalize upd H4 l (.tup ((r ++ u).map V.int)) = H5 at *
        refine ⟨_, rfl, kd, _, rfl, DGet.t (k := keyW (r ++ u)) ((s02.trans s5) _ _ hk) e5, ?_⟩
        refine ⟨_, rfl, ?_⟩
        rw [valO]
        cases hv : toldOf kn (r ++ u) with
        | some z =>
          refine ifDF rfl ⟨_, rfl, s5, fun a ha => ?_⟩
          rw [take_more eu] at ha
          rcases List.mem_append.mp ha with z | z
          · exact al3 a z
          · rw [List.mem_singleton.mp z, hv]
            exact fun z => nomatch z
        | none =>
          refine ifDT rfl ?_
          refine ⟨_, rfl, _, rfl, t, c, _, _, rfl, rfl, s5 _ _ et, (s02.trans s5) _ _ (hu.2 j c _ hc eu0), room, fun l2 hl2 => ?_⟩
          have found : dueOf kn L S Tl = some (r ++ u) := by
            refine find_flat ew (fun y hy z hz => ?_) (j := j) (z := r ++ u) (by rw [List.getElem?_map, eu]; rfl) (fun y hy => ?_) (decide_eq_true hv)
            · obtain ⟨v, hv2, rfl⟩ := List.mem_map.mp hz
              exact decide_eq_false (al y hy v hv2)
            · rw [← List.map_take] at hy
              obtain ⟨v, hv2, rfl⟩ := List.mem_map.mp hy
              exact decide_eq_false (al3 v hv2)
          exact f1 _ found _ l2 (same_upd (s02.trans s5) hl2) ((s02.trans s5).free hl2) (by rw [upd_same, List.map_append])
      · rintro σ H3 ⟨v5, rfl, s3, al3⟩
        rw [List.length_map, hu.1, List.take_length] at al3
        refine ⟨_, _, rfl, s2.trans s3, fun a ha => ?_⟩
        rw [take_more ew] at ha
        rcases List.mem_append.mp ha with z | z
        · exact al a z
        · rw [List.mem_singleton.mp z]
          exact al3
    · rintro σ H2 ⟨v4, v5, rfl, s2, al⟩
      rw [List.length_map, rl.1, List.take_length] at al
      refine f0 ?_ H2 (s1.trans s2)
      unfold dueOf wordsOf
      rw [List.find?_eq_none]
      intro a ha
      obtain ⟨r, hr1, hm⟩ := List.mem_flatMap.mp ha
      obtain ⟨u, hu, rfl⟩ := List.mem_map.mp hm
      rw [decide_eq_false (al r hr1 u hu)]
      exact Bool.false_ne_true
theorem ok_lrow (T : Txt K mg A) : FnOk P w K mg base CX0 3 A.a_law_row A.d_law_row ["machine", "word", "columns"] (spLRow K) := by
  have G_law_output : FnOk P w K mg base CX0 2 A.a_law_output A.d_law_output ["machine", "word"] (spOutput K) := ok_output T
  refine T.F_law_row.ok sc_law_row (fun vs H Q E h => ?_) (fun cdv Ar outer s H vs Q E hr h => ?_)
  · obtain ⟨_, _, _, _, _, _, _, rfl, _⟩ := h
    rfl
  · have hr_law_output : Room 2 _ := hr
    refine ⟨_, (pss_one (ps_ret (pe_lc (own := [("column", 3)]) (g := (gName 3)) (tt := tYes) rfl sc_law_row.nd (pi_list (pv 2)) (blkOk_by (N := ["machine", "word", "columns", "column"]) (sc := defScope s_law_row) (by decide +kernel)) (fun _ _ _ _ _ => (pg_name (i := 3) sc_law_row.nd rfl (Or.inl rfl))) (fun _ _ _ _ _ => pts_nil) (fun _ _ _ _ _ => (pe_call G_law_output hr_law_output (by rfl) T.g_law_output T.F_law_output.kp T.b_law_output .nil pass0 (pa_cons (pv 0) (pa_cons (pe_op op_cat (pv 1) (pv 3)) pa_nil))))))), ?_⟩
    obtain ⟨m, a, b, M, us, w, Tl, rfl, hM, g, ha, hb, hu, wl, tn, tls, lw, lt, fin⟩ := h
    refine ⟨_, rfl, b, rfl, ⟨_, SqL.of hb⟩, fun D hD => ?_⟩
    refine lc_list (K := K) (a := b) (xs := us.map V.ref) (fun i H' => Same H H' ∧ H' D = some (.lst ((rowM M (Tl.take i) w).map V.int))) ⟨same_upd (Same.refl _) hD, upd_same⟩ (fun i H' _ z => SqL.of (z.1 _ _ hb)) ?_ ?_
    · rintro i y H2 hy ⟨s2, e2⟩
      obtain ⟨c, hc, rfl⟩ := ofV hy
      have il : i < Tl.length := by rw [← hu.1]; exact (List.getElem?_eq_some_iff.mp hc).1
      have eu := List.getElem?_eq_getElem il
      have ec := s2 _ _ (hu.2 i c _ hc eu)
      generalize Tl[i] = u at *
      have uT := List.mem_of_getElem? eu
      have ul := tls u uT
      have room : (w.map V.int).length + (u.map V.int).length ≤ sizeLine := by
        rw [List.length_map, List.length_map]
        exact Nat.le_of_lt (Nat.lt_of_le_of_lt (by omega : w.length + u.length ≤ 4000) (by decide))
      refine ⟨rfl, ?_⟩
      refine ⟨_, rfl, _, rfl, _, rfl, a, c, _, _, rfl, rfl, s2 _ _ ha, ec, room, fun x hx => ?_⟩
      have s4 := same_upd (o := .lst (w.map V.int ++ u.map V.int)) s2 hx
      have e4 : (upd H2 x (.lst (w.map V.int ++ u.map V.int))) x = some (.lst ((w ++ u).map V.int)) := by rw [upd_same, List.map_append]
      have eD := (same_upd (o := .lst (w.map V.int ++ u.map V.int)) (Same.refl H2) hx) _ _ e2
      generalize upd H2 x (.lst (w.map V.int ++ u.map V.int)) = H4 at *
      refine ⟨m, x, M, w ++ u, rfl, hM.same s4, g, SqL.of e4, fun z hz => (List.mem_append.mp hz).elim (lw z) (lt u uT z), ?_⟩
      refine ⟨_, eD, ?_, same_set s4 hD, ?_⟩
      · rw [List.length_map]
        unfold rowM
        rw [List.length_map, List.length_take]
        exact Nat.lt_of_le_of_lt (by omega : min i Tl.length ≤ 100) (by decide)
      · rw [upd_same]
        unfold rowM
        rw [take_more eu, List.map_append, List.map_append]
        rfl
    · rintro H2 ⟨s2, e2⟩
      rw [List.length_map, hu.1, List.take_length] at e2
      exact fin H2 D s2 hD e2
end
end K11

set_option Elab.async false
set_option linter.all false
set_option maxRecDepth 100000
set_option maxHeartbeats 4000000
namespace K11
open PySem PySem.Spec PyProof.Rows L2 Mz
def ClosedM (M : Mach) (L : Nat) (S T : List (List Int)) : Prop := ∀ w ∈ S, ∀ a < L, rowM M T (w ++ [(a : Int)]) ∈ S.map (rowM M T)
def madeM (M : Mach) (L : Nat) (S T : List (List Int)) : Mach :=
  ⟨L, M.os, S.map fun w => (List.range L).map fun a : Nat => ixI (S.map (rowM M T)) (rowM M T (w ++ [(a : Int)])), S.map (ansM M)⟩
theorem ixI_find {rows : List (List Int)} {r : List Int} : ((rows.findIdx fun y => decide (y = r) : Nat) : Int) = ixI rows r := by
  unfold ixI List.idxOf
  congr 2
  funext y
  rw [Bool.eq_iff_iff]
  simp
/-- sizes and letters of a table's words -/
structure Fine (M : Mach) (L : Nat) (S T : List (List Int)) : Prop where
  sm : Small L S T
  ls : M.ls = (L : Int)
  sl : ∀ w ∈ S, Lt (L : Int) w
  tl : ∀ t ∈ T, Lt (L : Int) t
theorem Lt.snoc {k : Int} {w : List Int} {a : Nat} (h : Lt k w) (ha : (a : Int) < k) : Lt k (w ++ [(a : Int)]) := fun z hz => (List.mem_append.mp hz).elim (h z) fun e => by
  rw [List.mem_singleton.mp e]
  omega
theorem Lt.app {k : Int} {w u : List Int} (h : Lt k w) (g : Lt k u) : Lt k (w ++ u) := fun z hz => (List.mem_append.mp hz).elim (h z) (g z)
def spMade : Sp := fun vs H Q _ => ∃ (m a b : Addr) (M : Mach) (ts us : List Addr) (S T : List (List Int)) (L : Nat), vs = [.ref m, .ref a, .ref b] ∧ MA H m M ∧ Good M ∧ H a = some (.lst (ts.map V.ref)) ∧ LL H ts S ∧ H b = some (.lst (us.map V.ref)) ∧ LL H us T ∧ Fine M L S T ∧
  (¬ ClosedM M L S T → ∀ H', Same H H' → Q .non H') ∧ (ClosedM M L S T → ∀ (H' : Hp) (q : Addr), Same H H' → MA H' q (madeM M L S T) → Q (.ref q) H')
section
variable {P : Program} {w : World} {K : PySem.W.Frag} {mg : Str → Option Value} {base : Heap} {A : Ads}
theorem ok_made (T : Txt K mg A) : FnOk P w K mg base CX0 4 A.a_law_made A.d_law_made ["machine", "states", "columns"] spMade := by
  have G_law_row : FnOk P w K mg base CX0 3 A.a_law_row A.d_law_row ["machine", "word", "columns"] (spLRow K) := ok_lrow T
  have G_law_output : FnOk P w K mg base CX0 2 A.a_law_output A.d_law_output ["machine", "word"] (spOutput K) := ok_output T
  refine T.F_law_made.ok sc_law_made (fun vs H Q E h => ?_) (fun cdv Ar outer s H vs Q E hr h => ?_)
  · obtain ⟨_, _, _, _, _, _, _, _, _, rfl, _⟩ := h
    rfl
  · have hr_law_row : Room 3 _ := hr
    have hr_law_output : Room 2 _ := hr.mono (by decide)
    refine ⟨_, (pss_cons (ps_setLc (i := 4) (own := [("word", 3)]) (g := (gName 3)) (tt := tYes) rfl sc_law_made.nd rfl rfl (sw_true rfl rfl rfl (by decide +kernel)) (pi_list (pv 1)) (blkOk_by (N := ["machine", "states", "columns", "word", "rows", "moves", "nexts", "a", "row"]) (sc := defScope s_law_made) (by decide +kernel)) (fun _ _ _ _ _ => (pg_name (i := 3) sc_law_made.nd rfl (Or.inl rfl))) (fun _ _ _ _ _ => pts_nil) (fun _ _ _ _ _ => (pe_call G_law_row hr_law_row (by rfl) T.g_law_row T.F_law_row.kp T.b_law_row .nil pass0 (pa_cons (pv 0) (pa_cons (pv 3) (pa_cons (pv 2) pa_nil))))))
      (pss_cons (ps_set (i := 5) sc_law_made.nd rfl (Or.inl rfl) (pe_lst pa_nil))
      (pss_cons (ps_for PassesOwn.never rfl (pi_list (pv 1)) (pg_name (i := 3) sc_law_made.nd rfl (Or.inl rfl))
        (pss_cons (ps_set (i := 6) sc_law_made.nd rfl (Or.inl rfl) (pe_lst pa_nil))
          (pss_cons (ps_for PassesOwn.never rfl (pi_range1 (by rfl) T.n_range (pa_cons (pe_ix (r := rIx K) ix_seq (pv 0) pe_int (fun _ _ => rfl)) pa_nil)) (pg_name (i := 7) sc_law_made.nd rfl (Or.inl rfl))
            (pss_cons (ps_set (i := 8) sc_law_made.nd rfl (Or.inl rfl) (pe_call G_law_row hr_law_row (by rfl) T.g_law_row T.F_law_row.kp T.b_law_row .nil pass0 (pa_cons (pv 0) (pa_cons (pe_op op_cat (pv 3) (pe_lst (pa_cons (pv 7) pa_nil))) (pa_cons (pv 2) pa_nil)))))
              (pss_cons (ps_if (pt_cmpR (op_notInD (hu65 hr)) (pv 8) (pv 4) rfl) (pss_one (ps_ret pe_non)) pss_nil)
              (pss_one (ps_expr (pe_bm PySem.F.plainAttrs_list PySem.F.slot_list_append PySem.F.type_list_append mt_append (pv 6) (pa_cons (pe_bm PySem.F.plainAttrs_list PySem.F.slot_list_index PySem.F.type_list_index (mt_indexD (hu65 hr)) (pv 4) (pa_cons (pv 8) pa_nil)) pa_nil)))))))
          (pss_one (ps_expr (pe_bm PySem.F.plainAttrs_list PySem.F.slot_list_append PySem.F.type_list_append mt_append (pv 5) (pa_cons (pe_callTy call_tuple_of (by rfl) T.n_tuple (by decide +kernel) (pa_cons (pv 6) pa_nil)) pa_nil)))))))
      (pss_one (ps_ret (pe_tup (pa_cons (pe_ix (r := rIx K) ix_seq (pv 0) pe_int (fun _ _ => rfl)) (pa_cons (pe_ix (r := rIx K) ix_seq (pv 0) pe_int (fun _ _ => rfl)) (pa_cons (pe_callTy call_tuple_of (by rfl) T.n_tuple (by decide +kernel) (pa_cons (pv 5) pa_nil)) (pa_cons (pe_callTy call_tuple_of (by rfl) T.n_tuple (by decide +kernel) (pa_cons (pe_lc (own := [("word", 3)]) (g := (gName 3)) (tt := tYes) rfl sc_law_made.nd (pi_list (pv 1)) (blkOk_by (N := ["machine", "states", "columns", "word", "rows", "moves", "nexts", "a", "row"]) (sc := defScope s_law_made) (by decide +kernel)) (fun _ _ _ _ _ => (pg_name (i := 3) sc_law_made.nd rfl (Or.inl rfl))) (fun _ _ _ _ _ => pts_nil) (fun _ _ _ _ _ => (pe_call G_law_output hr_law_output (by rfl) T.g_law_output T.F_law_output.kp T.b_law_output .nil pass0 (pa_cons (pv 0) (pa_cons (pv 3) pa_nil))))) pa_nil)) pa_nil)))))))))), ?_⟩
    obtain ⟨m, a, b, M, ts, us, S, Tl, L, rfl, hM, g, ha, hl, hb, hu, fi, f0, f1⟩ := h
    have sm := fi.sm
    refine ⟨_, rfl, a, rfl, ⟨_, SqL.of ha⟩, fun D hD => ?_⟩
    refine lc_list (K := K) (a := a) (xs := ts.map V.ref) (fun i H' => Same H H' ∧ ∃ rs : List Addr, H' D = some (.lst (rs.map V.ref)) ∧ LLd H' rs ((S.take i).map (rowM M Tl)) D) ⟨same_upd (Same.refl _) hD, [], upd_same, LLd.nil⟩ (fun i H' _ z => SqL.of (z.1 _ _ ha)) ?_ ?_
    · rintro i y H2 hy ⟨s2, rs, e2, l2⟩
      obtain ⟨t, ht, rfl⟩ := ofV hy
      have il : i < S.length := by rw [← hl.1]; exact (List.getElem?_eq_some_iff.mp ht).1
      have ew := List.getElem?_eq_getElem il
      have et := s2 _ _ (hl.2 i t _ ht ew)
      generalize S[i] = w at *
      have wS := List.mem_of_getElem? ew
      refine ⟨rfl, ?_⟩
      refine ⟨_, rfl, _, rfl, _, rfl, m, t, b, M, us, w, Tl, rfl, hM.same s2, g, et, s2 _ _ hb, hu.same s2, by have := sm.ss w wS; omega, sm.t100, sm.ts, by rw [fi.ls]; exact fi.sl w wS, by rw [fi.ls]; exact fi.tl, fun H3 q s3 hq e3 => ?_⟩
      have lr := l2.1.1
      rw [List.length_map, List.length_take] at lr
      refine ⟨_, s3 _ _ e2, ?_, same_set (s2.trans s3) hD, rs ++ [q], by rw [upd_same, List.map_append]; rfl, ?_⟩
      · rw [List.length_map]
        exact Nat.lt_of_le_of_lt (by have := sm.s100; omega : rs.length ≤ 100) (by decide)
      · rw [take_more ew, List.map_append]
        exact (l2.same s3).push e3 (fun z => by rw [z, e2] at hq; cases hq) _
    rintro H2 ⟨s2, rs, e2, l2⟩
    rw [List.length_map, hl.1, List.take_length] at l2
    have l2 := l2.1
    refine ⟨Nat.zero_le _, fun l1 hl1 => ?_⟩
    have s3 := same_upd (o := .lst []) (Same.refl H2) hl1
    have e3 : (upd H2 l1 (.lst [])) l1 = some (.lst (([] : List Addr).map V.ref)) := upd_same
    have h2l : H2 l1 = none := hl1
    generalize upd H2 l1 (.lst []) = H3 at *
    refine ⟨_, rfl, a, rfl, ⟨_, SqL.of (s3 _ _ (s2 _ _ ha))⟩, for_list (K := K) (a := a) (xs := ts.map V.ref) (fun i σ H' => ∃ (v3 v6 v7 v8 : Option V) (ms : List Addr), σ = [some (.ref m), some (.ref a), some (.ref b), v3, some (.ref D), some (.ref l1), v6, v7, v8] ∧ Same H2 H' ∧ H' l1 = some (.lst (ms.map V.ref)) ∧ TupL H' ms ((S.take i).map fun w => (List.range L).map fun a : Nat => ixI (S.map (rowM M Tl)) (rowM M Tl (w ++ [(a : Int)]))) ∧ ∀ w ∈ S.take i, ∀ a < L, rowM M Tl (w ++ [(a : Int)]) ∈ S.map (rowM M Tl))
      ⟨_, _, _, _, [], rfl, s3, e3, TupL.nil, fun w h => by simp at h⟩ (fun i σ H' _ ⟨_, _, _, _, _, _, z, _⟩ => SqL.of (z _ _ (s2 _ _ ha))) ?_ ?_⟩
    · rintro i y σ H4 hy ⟨v3, v6, v7, v8, ms, rfl, s4, e4, t4, cl⟩
      obtain ⟨t, ht, rfl⟩ := ofV hy
      have il : i < S.length := by rw [← hl.1]; exact (List.getElem?_eq_some_iff.mp ht).1
      have ew := List.getElem?_eq_getElem il
      have s24 := s2.trans s4
      have et := s24 _ _ (hl.2 i t _ ht ew)
      generalize S[i] = w at *
      have wS := List.mem_of_getElem? ew
      refine ⟨Nat.zero_le _, fun l2' hl2 => ?_⟩
      have l21 : l2' ≠ l1 := fun z => by
        rw [z, e4] at hl2
        cases hl2
      obtain ⟨mv, ou, rs2, hMt⟩ := hM
      refine ⟨_, rfl, .inr (.inl ⟨m, _, 0, .int M.ls, rfl, rfl, SqT.of ((same_upd s24 hl2) _ _ hMt.top), rfl, (L : Int), by rw [fi.ls], by have := sm.l1; omega, by have := sm.l4; omega, ?_⟩)⟩
      have hM : MA H m M := ⟨mv, ou, rs2, hMt⟩
      refine for_range (n := ((L : Int)).toNat) (fun k σ H' => ∃ (v7 v8 : Option V), σ = [some (.ref m), some (.ref a), some (.ref b), some (.ref t), some (.ref D), some (.ref l1), some (.ref l2'), v7, v8] ∧ Same H4 H' ∧ H' l2' = some (.lst (((List.range k).map fun a : Nat => ixI (S.map (rowM M Tl)) (rowM M Tl (w ++ [(a : Int)]))).map V.int)) ∧ ∀ a < k, rowM M Tl (w ++ [(a : Int)]) ∈ S.map (rowM M Tl))
        ⟨_, _, rfl, same_upd (Same.refl _) hl2, upd_same, fun a h => by omega⟩ ?_ ?_
      · rintro k σ H5 hk ⟨v7, v8, rfl, s5, e5, al⟩
        have kL : k < L := by simpa using hk
        have ea : (0 : Int) + (k : Int) = (k : Int) := by omega
        rw [ea]
        have s25 := s24.trans s5
        have room : (w.map V.int).length + ([V.int (k : Int)] : List V).length ≤ sizeLine := by
          rw [List.length_map]
          exact Nat.le_of_lt (Nat.lt_of_le_of_lt (by have := sm.ss w wS; show w.length + 1 ≤ 1001; omega) (by decide))
        refine ⟨_, rfl, _, rfl, _, rfl, (by show 1 ≤ sizeLine; decide), fun x1 hx1 => ?_⟩
        have s6 := same_upd (o := .lst [.int (k : Int)]) (Same.refl H5) hx1
        have e6 : (upd H5 x1 (.lst [.int (k : Int)])) x1 = some (.lst [.int (k : Int)]) := upd_same
        generalize upd H5 x1 (.lst [.int (k : Int)]) = H6 at *
        refine ⟨t, x1, _, _, rfl, rfl, s6 _ _ (s5 _ _ et), e6, room, fun x2 hx2 => ?_⟩
        have s7 := same_upd (o := .lst (w.map V.int ++ [.int (k : Int)])) s6 hx2
        have e7 : (upd H6 x2 (.lst (w.map V.int ++ [.int (k : Int)]))) x2 = some (.lst ((w ++ [(k : Int)]).map V.int)) := by rw [upd_same, List.map_append]; rfl
        generalize upd H6 x2 (.lst (w.map V.int ++ [.int (k : Int)])) = H7 at *
        have s27 := s25.trans s7
        refine ⟨_, rfl, m, x2, b, M, us, w ++ [(k : Int)], Tl, rfl, hM.same s27, g, e7, s27 _ _ hb, hu.same s27, by rw [List.length_append]; have := sm.ss w wS; show w.length + 1 ≤ 1001; omega, sm.t100, sm.ts, by rw [fi.ls]; exact K11.Lt.snoc (fi.sl w wS) (by omega), by rw [fi.ls]; exact fi.tl, fun H8 q s8 hq e8 => ?_⟩
        have s58 := s7.trans s8
        have e8D := s8 _ _ (s7 _ _ (s5 _ _ (s4 _ _ e2)))
        have l8 := l2.same ((s4.trans s5).trans s58)
        refine ⟨_, rfl, _, rfl, notin_ll e8 e8D l8 ⟨_, rfl, iteN2 (fun nin => ?_) (fun inn => ?_)⟩⟩
        · exact f0 (fun cl => nin (cl w wS k kL)) H8 (s25.trans s58)
        · refine ⟨_, rfl, .inl ⟨rfl, _, SqL.of (s58 _ _ e5)⟩, ?_⟩
          refine ⟨_, rfl, .inl ⟨rfl, _, SqL.of e8D⟩, _, rfl, ?_⟩
          dsimp only [tNil]
          refine index_ll e8 e8D l8 inn ?_
          refine ⟨l2', _, _, rfl, rfl, s58 _ _ e5, ?_, ?_⟩
          · rw [List.length_map, List.length_map, List.length_range]
            exact Nat.lt_of_le_of_lt (by have := sm.l4; omega : k ≤ 4) (by decide)
          refine ⟨_, _, rfl, same_set (s5.trans s58) hl2, ?_, fun x hx => ?_⟩
          · rw [upd_same, List.range_succ, List.map_append, List.map_append, ixI_find]
            rfl
          · by_cases c : x = k
            · rw [c]
              exact inn
            · exact al x (by omega)
      · rintro σ H5 ⟨v7, v8, rfl, s5, e5, al⟩
        have nL : ((L : Int)).toNat = L := by omega
        rw [nL] at e5 al
        refine ⟨_, rfl, .inl ⟨rfl, _, SqL.of (s5 _ _ e4)⟩, ?_⟩
        refine ⟨_, rfl, l2', _, rfl, .inl ⟨SqL.of e5, fun r hr' => ?_⟩⟩
        have s6 := same_upd (o := .tup (((List.range L).map fun a : Nat => ixI (S.map (rowM M Tl)) (rowM M Tl (w ++ [(a : Int)]))).map V.int)) s5 hr'
        have er : (upd H5 r (.tup (((List.range L).map fun a : Nat => ixI (S.map (rowM M Tl)) (rowM M Tl (w ++ [(a : Int)]))).map V.int))) r = some (.tup (((List.range L).map fun a : Nat => ixI (S.map (rowM M Tl)) (rowM M Tl (w ++ [(a : Int)]))).map V.int)) := upd_same
        generalize upd H5 r _ = H6 at *
        have t6 := t4.same s6
        have lm := t6.1
        rw [List.length_map, List.length_take] at lm
        refine ⟨l1, _, _, rfl, rfl, s6 _ _ e4, ?_, ?_⟩
        · rw [List.length_map]
          exact Nat.lt_of_le_of_lt (by have := sm.s100; omega : ms.length ≤ 100) (by decide)
        refine ⟨_, _, _, _, ms ++ [r], rfl, same_set (s4.trans s6) h2l, by rw [upd_same, List.map_append]; rfl, ?_, fun x hx a ha => ?_⟩
        · rw [take_more ew, List.map_append]
          exact t6.push (s6 _ _ e4) er
        · rw [take_more ew] at hx
          rcases List.mem_append.mp hx with z | z
          · exact cl x z a ha
          · rw [List.mem_singleton.mp z]
            exact al a ha
    · rintro σ H4 ⟨v3, v6, v7, v8, ms, rfl, s4, e4, t4, cl⟩
      rw [List.length_map, hl.1, List.take_length] at t4 cl
      have s24 := s2.trans s4
      obtain ⟨mv0, ou0, rs0, hMt⟩ := hM.same s24
      refine ⟨_, rfl, .inr (.inl ⟨m, _, 0, .int M.ls, rfl, rfl, SqT.of hMt.top, rfl, ?_⟩)⟩
      refine ⟨_, rfl, .inr (.inl ⟨m, _, 1, .int M.os, rfl, rfl, SqT.of hMt.top, rfl, ?_⟩)⟩
      refine ⟨_, rfl, l1, _, rfl, .inl ⟨SqL.of e4, fun mv hmv => ?_⟩⟩
      have s5 := same_upd (o := .tup (ms.map V.ref)) (Same.refl H4) hmv
      have emv : (upd H4 mv (.tup (ms.map V.ref))) mv = some (.tup (ms.map V.ref)) := upd_same
      generalize upd H4 mv (.tup (ms.map V.ref)) = H5 at *
      have s25 := s24.trans s5
      refine ⟨_, rfl, a, rfl, ⟨_, SqL.of (s25 _ _ ha)⟩, fun D5 hD5 => ?_⟩
      refine lc_list (K := K) (a := a) (xs := ts.map V.ref) (fun i H' => Same H5 H' ∧ H' D5 = some (.lst (((S.take i).map (ansM M)).map V.int))) ⟨same_upd (Same.refl _) hD5, upd_same⟩ (fun i H' _ z => SqL.of (z.1 _ _ (s25 _ _ ha))) ?_ ?_
      · rintro i y H6 hy ⟨s6, e6⟩
        obtain ⟨t, ht, rfl⟩ := ofV hy
        have il : i < S.length := by rw [← hl.1]; exact (List.getElem?_eq_some_iff.mp ht).1
        have ew := List.getElem?_eq_getElem il
        have s26 := s25.trans s6
        have et := s26 _ _ (hl.2 i t _ ht ew)
        generalize S[i] = w at *
        have wS := List.mem_of_getElem? ew
        refine ⟨rfl, ?_⟩
        refine ⟨_, rfl, _, rfl, m, t, M, w, rfl, hM.same s26, g, SqL.of et, by rw [fi.ls]; exact fi.sl w wS, ?_⟩
        refine ⟨_, e6, ?_, same_set s6 hD5, ?_⟩
        · rw [List.length_map, List.length_map, List.length_take]
          exact Nat.lt_of_le_of_lt (by have := sm.s100; omega : min i S.length ≤ 100) (by decide)
        · rw [upd_same, take_more ew, List.map_append, List.map_append]
          rfl
      rintro H6 ⟨s6, e6⟩
      rw [List.length_map, hl.1, List.take_length] at e6
      refine ⟨D5, _, rfl, .inl ⟨SqL.of e6, fun o ho => ?_⟩⟩
      have s7 := same_upd (o := .tup ((S.map (ansM M)).map V.int)) (Same.refl H6) ho
      have eo : (upd H6 o (.tup ((S.map (ansM M)).map V.int))) o = some (.tup ((S.map (ansM M)).map V.int)) := upd_same
      generalize upd H6 o (.tup ((S.map (ansM M)).map V.int)) = H7 at *
      refine ⟨(by show 4 ≤ sizeLine; decide), fun x hx => ?_⟩
      have s8 := same_upd (o := .tup [.int M.ls, .int M.os, .ref mv, .ref o]) (Same.refl H7) hx
      have e8 : (upd H7 x (.tup [.int M.ls, .int M.os, .ref mv, .ref o])) x = some (.tup [.int (L : Int), .int M.os, .ref mv, .ref o]) := by rw [upd_same, fi.ls]
      have s58 := (s6.trans s7).trans s8
      have t8 := (t4.same s5).same s58
      exact f1 cl _ x (s25.trans s58) ⟨mv, o, ms, e8, s58 _ _ emv, s8 _ _ eo, t8.1, t8.2⟩
end
end K11

set_option Elab.async false
set_option linter.all false
set_option maxRecDepth 100000
set_option maxHeartbeats 4000000
namespace K11
open PySem PySem.Spec PyProof.Rows L2 Mz
/-- what a machine drawn from the table gets wrong first -/
def wrongM (M Md : Mach) (S T : List (List Int)) : Option ((Nat × List Int) × List Int) :=
  (S.zipIdx.flatMap fun x => T.map fun t => ((x.2, x.1), t)).find? fun y => decide (Md.out (Md.run (y.1.1 : Int) y.2) ≠ ansM M (y.1.2 ++ y.2))
def spLMistake : Sp := fun vs H Q _ => ∃ (m n a b : Addr) (M Md : Mach) (ts us : List Addr) (S T : List (List Int)) (L : Nat), vs = [.ref m, .ref n, .ref a, .ref b] ∧ MA H m M ∧ Good M ∧ MA H n Md ∧ Good Md ∧ Md.ls = (L : Int) ∧ Md.rows.length = S.length ∧ H a = some (.lst (ts.map V.ref)) ∧ LL H ts S ∧ H b = some (.lst (us.map V.ref)) ∧ LL H us T ∧ Fine M L S T ∧
  (wrongM M Md S T = none → ∀ H', Same H H' → Q .non H') ∧
  (∀ j w t, wrongM M Md S T = some ((j, w), t) → ∀ (H' : Hp) (q a b : Addr), Same H H' → H' q = some (.tup [.ref a, .ref b]) → H' a = some (.lst (w.map V.int)) → H' b = some (.lst (t.map V.int)) → Q (.ref q) H')
def spMachineTold (A : Ads) (Pt : Addr) : Sp := fun vs H Q _ => ∃ (p sd td kd : Addr) (L : Nat) (os : Int) (S T : List (List Int)) (kn : List (List Int × Int)), vs = [.ref p, .int os, .ref kd] ∧ TabAt A.a_Table H p sd td (L : Int) S T ∧ Small L S T ∧ H kd = some (.dT (kvsO kn)) ∧ kd ≠ sd ∧ kd ≠ td ∧ sd ≠ td ∧ Full kn L S T ∧ (∀ w ∈ S, toldOf kn w ≠ none) ∧ GxR.TabG H Pt ∧
  (Closed kn L S T → ∀ (H' : Hp) (m : Addr), Kp Pt H H' → MA H' m (madeOf kn L os S T) → Q (.ref m) H') ∧ (¬ Closed kn L S T → ∀ (H' : Hp) (q : Addr), Kp Pt H H' → H' q = some (.lst [.str "missing", .bl true]) → Q (.ref q) H')
def spLAlike (A : Ads) : Sp := fun vs H Q _ => ∃ (p sd td q : Addr) (L : Int) (S T : List (List Int)) (w : List Int), vs = [.ref p, .ref q] ∧ TabAt A.a_Table H p sd td L S T ∧ H q = some (.lst (w.map V.int)) ∧ w.length ≤ 1000 ∧ T.length ≤ 100 ∧ sd ≠ td ∧ p ≠ td ∧ w ∈ T ∧ ∀ H' : Hp, Same H H' → Q (.bl true) H'
section
variable {P : Program} {w : World} {K : PySem.W.Frag} {mg : Str → Option Value} {base : Heap} {A : Ads} {c Pt : Addr}
theorem ok_lalike (T : Txt K mg A) : FnOk P w K mg base CX0 2 A.a_law_alike A.d_law_alike ["table", "column"] (spLAlike A) := by
  have G_Table_add_column : FnOk P w K mg base (L2N.CX P w) 1 A.a_Table_add_column A.d_Table_add_column ["self", "word"] (spAddColumn A) := ok_add_column T
  refine T.F_law_alike.ok sc_law_alike (fun vs H Q E h => ?_) (fun cdv Ar outer s H vs Q E hr h => ?_)
  · obtain ⟨_, _, _, _, _, _, _, _, rfl, _⟩ := h
    rfl
  · have hr_Table_add_column : Room 1 _ := hr
    refine ⟨_, (pss_cons (L2N.ps_try_as (i := 2) rfl rfl sc_law_alike.nd rfl rfl ⟨rfl, by decide, Or.inl T.g_Alike⟩ takesN (fun W pn xe tk po => (pss_one (ps_expr (pe_methS (pv 0) T.cl_Table T.m_Table_add_column G_Table_add_column hr_Table_add_column T.b_Table_add_column (fun σ => L2N.passAt tk σ) (pa_cons (pv 1) pa_nil))))) (fun a oe cls d pn hz hf => (pss_one (ps_ret (pe_and (pe_callB (call_isX hz.zc hf) (by rfl) T.n_isinstance (by decide +kernel) (pa_cons (pv 2) (pa_cons (C8.pe_gc (v := .ref A.a_MaieuticError) (by rfl) ⟨_, T.g_MaieuticError, rfl⟩) pa_nil))) (pe_one (pe_not (pe_callB (call_isX hz.zc hf) (by rfl) T.n_isinstance (by decide +kernel) (pa_cons (pv 2) (pa_cons (C8.pe_gc (v := .ref A.a_Missing) (by rfl) ⟨_, T.g_Missing, rfl⟩) pa_nil))))))))))
      (pss_one (ps_ret pe_bl))), ?_⟩
    obtain ⟨p, sd, td, q, L, S, Tl, w, rfl, hs, hq, wl, tl, st, pt, mem, fin⟩ := h
    obtain ⟨⟨dx, ob⟩, di, dt⟩ := id hs
    refine ⟨_, rfl, p, dx, _, rfl, ob, sF_no _ _ _ (by decide +kernel) (by decide +kernel) (by decide +kernel), _, rfl, ?_⟩
    refine ⟨p, sd, td, q, L, S, Tl, w, rfl, hs, hq, wl, tl, st, pt, fun _ H1 s1 => ?_, fun z => absurd mem z⟩
    refine ⟨true, exm_own T.E_Alike T.ty_Alike T.su_Alike_Alike, fun _ a ha => ?_, fun z => Bool.noConfusion z⟩
    refine ⟨_, rfl, A.a_Alike, A.a_MaieuticError, true, rfl, rfl, T.E_Alike, rfl, kit_own T.su_Alike_Alike T.E_MaieuticError T.ty_MaieuticError T.su_Alike_MaieuticError, _, rfl, ifDT rfl ?_⟩
    refine ⟨_, rfl, A.a_Alike, A.a_Missing, false, rfl, rfl, T.E_Alike, rfl, kit_own T.su_Alike_Alike T.E_Missing T.ty_Missing T.su_Alike_Missing, _, rfl, ?_⟩
    exact fin _ s1
theorem ok_machinetold (T : Txt K mg A) (TB : GxR.TabB base mg c Pt) (hc : A.d_Table_machine.code = .ref c) : FnOk P w K mg base CX0 6 A.a_law_machine_told A.d_law_machine_told ["table", "outs", "known"] (spMachineTold A Pt) := by
  have G_Table_machine : FnOk P w K mg base (L2N.CX P w) 5 A.a_Table_machine A.d_Table_machine ["self", "outs", "known"] (spMachine A Pt) := ok_machine T TB hc
  refine T.F_law_machine_told.ok sc_law_machine_told (fun vs H Q E h => ?_) (fun cdv Ar outer s H vs Q E hr h => ?_)
  · obtain ⟨_, _, _, _, _, _, _, _, _, rfl, _⟩ := h
    rfl
  · have hr_Table_machine : Room 5 _ := hr
    refine ⟨_, (pss_one (L2N.ps_try_as (i := 3) rfl rfl sc_law_machine_told.nd rfl rfl ⟨rfl, by decide, Or.inl T.g_Missing⟩ takesN (fun W pn xe tk po => (pss_one (ps_ret (pe_methS (pv 0) T.cl_Table T.m_Table_machine G_Table_machine hr_Table_machine T.b_Table_machine (fun σ => L2N.passAt tk σ) (pa_cons (pv 1) (pa_cons (pv 2) pa_nil)))))) (fun a oe cls d pn hz hf => (pss_one (ps_ret (pe_lst (pa_cons pe_str (pa_cons (pe_and (pe_callB (call_isX hz.zc hf) (by rfl) T.n_isinstance (by decide +kernel) (pa_cons (pv 3) (pa_cons (C8.pe_gc (v := .ref A.a_MaieuticError) (by rfl) ⟨_, T.g_MaieuticError, rfl⟩) pa_nil))) (pe_one (pe_not (pe_callB (call_isXT hz.zc hf) (by rfl) T.n_isinstance (by decide +kernel) (pa_cons (pv 3) (pa_cons (pe_tup (pa_cons (C8.pe_gc (v := .ref A.a_Alike) (by rfl) ⟨_, T.g_Alike, rfl⟩) (pa_cons (C8.pe_gc (v := .ref A.a_NotAllowed) (by rfl) ⟨_, T.g_NotAllowed, rfl⟩) pa_nil))) pa_nil)))))) pa_nil)))))))), ?_⟩
    obtain ⟨p, sd, td, kd, L, os, S, Tl, kn, rfl, hs, sm, hk, ks, kt, st, full, own, hT, f0, f1⟩ := h
    obtain ⟨⟨dx, ob⟩, di, dt⟩ := id hs
    have kt2 : PySem.W.kitAny K (.ref A.a_Missing) [.ref A.a_Alike, .ref A.a_NotAllowed] = some false :=
      kitAny_cons (kit_own T.su_Missing_Missing T.E_Alike T.ty_Alike T.su_Missing_Alike) (fun _ => kitAny_cons (kit_own T.su_Missing_Missing T.E_NotAllowed T.ty_NotAllowed T.su_Missing_NotAllowed) (fun _ => kitAny_nil) (fun z => z)) (fun z => z)
    refine ⟨_, rfl, p, dx, _, rfl, ob, sF_no _ _ _ (by decide +kernel) (by decide +kernel) (by decide +kernel), _, rfl, _, rfl, ?_⟩
    refine ⟨p, sd, td, kd, L, os, S, Tl, kn, rfl, hs, sm, hk, ks, kt, st, full, own, hT, fun clo H1 m k1 hm => ?_, fun no H1 k1 => ?_⟩
    · exact f0 clo H1 m k1 hm
    · refine ⟨true, exm_own T.E_Missing T.ty_Missing T.su_Missing_Missing, fun _ a ha => ?_, fun z => Bool.noConfusion z⟩
      refine ⟨_, rfl, A.a_Missing, A.a_MaieuticError, true, rfl, rfl, T.E_Missing, rfl, kit_own T.su_Missing_Missing T.E_MaieuticError T.ty_MaieuticError T.su_Missing_MaieuticError, _, rfl, ifDT rfl ?_⟩
      refine ⟨_, rfl, (by show 2 ≤ sizeLine; decide), fun t ht => ?_⟩
      refine ⟨A.a_Missing, t, _, _, false, rfl, rfl, T.E_Missing, rfl, upd_same, .cons (.own _) (.cons (.own _) .nil), kt2, _, rfl, ?_⟩
      refine ⟨(by show 2 ≤ sizeLine; decide), fun q hq => ?_⟩
      exact f1 no _ q (k1.andS (same_upd (same_upd (Same.refl _) ht) hq)) upd_same
theorem ok_lmistake (T : Txt K mg A) : FnOk P w K mg base CX0 3 A.a_law_mistake A.d_law_mistake ["machine", "made", "states", "columns"] spLMistake := by
  have G_law_output : FnOk P w K mg base CX0 2 A.a_law_output A.d_law_output ["machine", "word"] (spOutput K) := ok_output T
  refine T.F_law_mistake.ok sc_law_mistake (fun vs H Q E h => ?_) (fun cdv Ar outer s H vs Q E hr h => ?_)
  · obtain ⟨_, _, _, _, _, _, _, _, _, _, _, rfl, _⟩ := h
    rfl
  · have hr_law_output : Room 2 _ := hr
    refine ⟨_, (pss_cons (ps_for PassesOwn.never rfl (pi_range1 (by rfl) T.n_range (pa_cons (pe_callB call_len_seq (by rfl) T.n_len PySem.boot_len (pa_cons (pv 2) pa_nil)) pa_nil)) (pg_name (i := 4) sc_law_mistake.nd rfl (Or.inl rfl))
        (pss_one (ps_for PassesOwn.never rfl (pi_list (pv 3)) (pg_name (i := 5) sc_law_mistake.nd rfl (Or.inl rfl))
            (pss_cons (ps_set (i := 6) sc_law_mistake.nd rfl (Or.inl rfl) (pv 4))
              (pss_cons (ps_for PassesOwn.never rfl (pi_list (pv 5)) (pg_name (i := 7) sc_law_mistake.nd rfl (Or.inl rfl))
                (pss_one (ps_set (i := 6) sc_law_mistake.nd rfl (Or.inl rfl) (pe_ix (r := rIx K) ix_seq (pe_ix (r := rIx K) ix_seq (pe_ix (r := rIx K) ix_seq (pv 1) pe_int (fun _ _ => rfl)) (pv 6) (fun _ _ => rfl)) (pv 7) (fun _ _ => rfl)))))
              (pss_one (ps_if (pt_cmpR op_ne (pe_ix (r := rIx K) ix_seq (pe_ix (r := rIx K) ix_seq (pv 1) pe_int (fun _ _ => rfl)) (pv 6) (fun _ _ => rfl)) (pe_call G_law_output hr_law_output (by rfl) T.g_law_output T.F_law_output.kp T.b_law_output .nil pass0 (pa_cons (pv 0) (pa_cons (pe_op op_cat (pe_ix (r := rIx K) ix_seq (pv 2) (pv 4) (fun _ _ => rfl)) (pv 5)) pa_nil))) (nomark _)) (pss_one (ps_ret (pe_tup (pa_cons (pe_ix (r := rIx K) ix_seq (pv 2) (pv 4) (fun _ _ => rfl)) (pa_cons (pv 5) pa_nil))))) pss_nil)))))))
      (pss_one (ps_ret pe_non))), ?_⟩
    obtain ⟨m, n, a, b, M, Md, ts, us, S, Tl, L, rfl, hM, g, hN, gd, dl, dr, ha, hl, hb, hu, fi, f0, f1⟩ := h
    have sm := fi.sm
    obtain ⟨mv, ou, rs, hNt⟩ := id hN
    have lenA : (ts.map V.ref).length = S.length := by rw [List.length_map, hl.1]
    refine ⟨_, rfl, a, _, rfl, .inl (SqL.of ha), ?_⟩
    rw [lenA]
    refine ⟨(S.length : Int), rfl, by omega, by have := sm.s100; omega, for_range (n := ((S.length : Int)).toNat) (fun i σ H' => ∃ (v4 v5 v6 v7 : Option V), σ = [some (.ref m), some (.ref n), some (.ref a), some (.ref b), v4, v5, v6, v7] ∧ Same H H' ∧ ∀ (j : Nat) (w : List Int), j < i → S[j]? = some w → ∀ t ∈ Tl, Md.out (Md.run (j : Int) t) = ansM M (w ++ t))
      ⟨_, _, _, _, rfl, Same.refl _, fun j w h => by omega⟩ ?_ ?_⟩
    · rintro i σ H2 hi ⟨v4, v5, v6, v7, rfl, s2, al⟩
      have il : i < S.length := by simpa using hi
      have ew := List.getElem?_eq_getElem il
      have itl : i < ts.length := by rw [hl.1]; exact il
      have ht := List.getElem?_eq_getElem itl
      have et := hl.2 i _ _ ht ew
      generalize ts[i] = t at *
      generalize S[i] = w at *
      have wS := List.mem_of_getElem? ew
      have wl := sm.ss w wS
      have ea : (0 : Int) + (i : Int) = (i : Int) := by omega
      rw [ea]
      have aT : atI (ts.map V.ref) (i : Int) = some (.ref t) := atI_nat (getV ht)
      have stI : Md.St (i : Int) := ⟨by omega, by rw [dr]; omega⟩
      refine ⟨_, rfl, b, rfl, ⟨_, SqL.of (s2 _ _ hb)⟩, for_list (K := K) (a := b) (xs := us.map V.ref) (fun j σ H' => ∃ (v5 v6 v7 : Option V), σ = [some (.ref m), some (.ref n), some (.ref a), some (.ref b), some (.int (i : Int)), v5, v6, v7] ∧ Same H H' ∧ ∀ t ∈ Tl.take j, Md.out (Md.run (i : Int) t) = ansM M (w ++ t))
        ⟨_, _, _, rfl, s2, fun t h => by simp at h⟩ (fun i σ H' _ ⟨_, _, _, _, z, _⟩ => SqL.of (z _ _ hb)) ?_ ?_⟩
      · rintro j y σ H3 hy ⟨v5, v6, v7, rfl, s3, al3⟩
        obtain ⟨c, hc, rfl⟩ := ofV hy
        have jl : j < Tl.length := by rw [← hu.1]; exact (List.getElem?_eq_some_iff.mp hc).1
        have eu := List.getElem?_eq_getElem jl
        have ec0 := hu.2 j c _ hc eu
        have eu0 := eu
        generalize Tl[j] = u at *
        have uT := List.mem_of_getElem? eu
        have ul := sm.ts u uT
        have lu := fi.tl u uT
        have ec := s3 _ _ ec0
        have hN3 := hNt.same s3
        refine ⟨_, rfl, ?_⟩
        refine ⟨_, rfl, c, rfl, ⟨_, SqL.of ec⟩, for_list (K := K) (a := c) (xs := u.map V.int) (fun k σ H' => ∃ v7 : Option V, σ = [some (.ref m), some (.ref n), some (.ref a), some (.ref b), some (.int (i : Int)), some (.ref c), some (.int (Md.run (i : Int) (u.take k))), v7] ∧ H' = H3 ∧ Md.St (Md.run (i : Int) (u.take k)))
          ⟨_, rfl, rfl, stI⟩ (fun i σ H' _ ⟨_, _, e, _⟩ => by rw [e]; exact SqL.of ec) ?_ ?_⟩
        · rintro k y σ H' hk ⟨v7, rfl, rfl, st⟩
          obtain ⟨z, hz, rfl⟩ := ofV hk
          have zl := lu z (List.mem_of_getElem? hz)
          rw [← dl] at zl
          obtain ⟨st2, w1, e1, e2⟩ := gd.step st zl.1 zl.2
          obtain ⟨r, f1, f2⟩ := hN3.rowAt st.1 e1
          refine ⟨_, rfl, .inr (.inl ⟨n, _, 2, .ref mv, rfl, rfl, SqT.of hN3.top, rfl, ?_⟩)⟩
          refine ⟨_, rfl, .inr (.inl ⟨mv, _, _, _, rfl, rfl, SqT.of hN3.mv, f1, ?_⟩)⟩
          refine ⟨_, rfl, .inr (.inl ⟨r, _, _, _, rfl, rfl, SqT.of f2, atI_get? zl.1 e2, ?_⟩)⟩
          rw [take_more hz, run_snoc]
          exact ⟨_, rfl, rfl, st2⟩
        · rintro σ H' ⟨v7, rfl, rfl, st⟩
          rw [List.length_map, List.take_length] at st
          rw [List.length_map, List.take_length]
          have room : (w.map V.int).length + (u.map V.int).length ≤ sizeLine := by
            rw [List.length_map, List.length_map]
            exact Nat.le_of_lt (Nat.lt_of_le_of_lt (by omega : w.length + u.length ≤ 4000) (by decide))
          refine ⟨_, rfl, .inr (.inl ⟨n, _, 3, .ref ou, rfl, rfl, SqT.of hN3.top, rfl, ?_⟩)⟩
          refine ⟨_, rfl, .inr (.inl ⟨ou, _, _, _, rfl, rfl, SqT.of hN3.ou, atI_get? st.1 (gd.outp st).1, ?_⟩)⟩
          refine ⟨_, rfl, _, rfl, _, rfl, .inl ⟨a, _, _, _, rfl, rfl, SqL.of (s3 _ _ ha), aT, _, rfl, t, c, _, _, rfl, rfl, s3 _ _ et, ec, room, fun x hx => ?_⟩⟩
          have s4 := same_upd (o := .lst (w.map V.int ++ u.map V.int)) s3 hx
          have e4 : (upd H' x (.lst (w.map V.int ++ u.map V.int))) x = some (.lst ((w ++ u).map V.int)) := by rw [upd_same, List.map_append]
          generalize upd H' x (.lst (w.map V.int ++ u.map V.int)) = H4 at *
          refine ⟨m, x, M, w ++ u, rfl, hM.same s4, g, SqL.of e4, by rw [fi.ls]; exact K11.Lt.app (fi.sl w wS) lu, ?_⟩
          refine ⟨rfl, _, rfl, iteN2 (fun c1 => ?_) (fun c1 => ?_)⟩
          · refine ⟨_, rfl, _, rfl, .inl ⟨a, _, _, _, rfl, rfl, SqL.of (s4 _ _ ha), aT, _, rfl, (by show 2 ≤ sizeLine; decide), fun q hq => ?_⟩⟩
            have s5 := same_upd (o := .tup [.ref t, .ref c]) s4 hq
            refine f1 i w u ?_ _ q t c s5 upd_same (s5 _ _ et) (s5 _ _ ec0)
            refine find_flat (x := (w, i)) (i := i) (by rw [List.getElem?_zipIdx, ew]; simp) (fun y hy z hz2 => ?_) (j := j) (z := ((i, w), u)) (by rw [List.getElem?_map, eu0]; rfl) (fun y hy => ?_) (decide_eq_true ?_)
            · obtain ⟨v, hv2, rfl⟩ := List.mem_map.mp hz2
              obtain ⟨n, hn, e⟩ := List.mem_take_iff_getElem.mp hy
              rw [List.getElem_zipIdx] at e
              subst e
              rw [List.length_zipIdx] at hn
              refine decide_eq_false fun z => z ?_
              exact al (0 + n) S[n] (by omega) (by rw [Nat.zero_add]; exact List.getElem?_eq_getElem (by omega)) v hv2
            · rw [← List.map_take] at hy
              obtain ⟨v, hv2, rfl⟩ := List.mem_map.mp hy
              exact decide_eq_false (fun z => z (al3 v hv2))
            · exact fun y => c1 (congrArg V.int y)
          · refine ⟨_, _, _, rfl, s4, fun t ht => ?_⟩
            rw [take_more eu0] at ht
            rcases List.mem_append.mp ht with y | y
            · exact al3 t y
            · rw [List.mem_singleton.mp y]
              exact V.int.inj c1
      · rintro σ H3 ⟨v5, v6, v7, rfl, s3, al3⟩
        rw [List.length_map, hu.1, List.take_length] at al3
        refine ⟨_, _, _, _, rfl, s3, fun j y hj hy => ?_⟩
        by_cases c : j = i
        · rw [c, ew] at hy
          cases hy
          rw [c]
          exact al3
        · exact al j y (by omega) hy
    · rintro σ H2 ⟨v4, v5, v6, v7, rfl, s2, al⟩
      refine f0 ?_ _ s2
      unfold wrongM
      rw [List.find?_eq_none]
      intro y hy
      obtain ⟨x, hx, hm2⟩ := List.mem_flatMap.mp hy
      obtain ⟨t, ht, rfl⟩ := List.mem_map.mp hm2
      have hx2 := List.mem_zipIdx_iff_getElem?.mp hx
      have := al x.2 x.1 (by have := (List.getElem?_eq_some_iff.mp hx2).1; simpa using this) hx2 t ht
      simp only [this, ne_eq, not_true_eq_false, decide_false, Bool.false_eq_true, not_false_eq_true]
end
end K11

set_option Elab.async false
set_option linter.all false
set_option maxRecDepth 100000
set_option maxHeartbeats 4000000
namespace K11
open PySem PySem.Spec PyProof.Rows L2 Mz
theorem flt_lt {α : Type} {p q : α → Bool} (h : ∀ x, q x = true → p x = true) {w : α} : ∀ {l : List α}, w ∈ l → p w = true → q w = false → (l.filter q).length < (l.filter p).length
  | [], hw, _, _ => absurd hw (by simp)
  | x :: l, hw, hp, hq => by
    have le : ∀ l : List α, (l.filter q).length ≤ (l.filter p).length := fun l => by
      induction l with
      | nil => exact Nat.le_refl _
      | cons y l ih =>
        rw [List.filter_cons, List.filter_cons]
        by_cases c : q y = true
        · rw [if_pos c, if_pos (h y c), List.length_cons, List.length_cons]
          omega
        · rw [if_neg c]
          split
          · rw [List.length_cons]
            omega
          · exact ih
    rw [List.filter_cons, List.filter_cons]
    rcases List.mem_cons.mp hw with e | e
    · subst e
      rw [if_pos hp, if_neg (by rw [hq]; decide), List.length_cons]
      have := le l
      omega
    · have ih := flt_lt (l := l) h e hp hq
      by_cases c : q x = true
      · rw [if_pos c, if_pos (h x c), List.length_cons, List.length_cons]
        omega
      · rw [if_neg c]
        split
        · rw [List.length_cons]
          omega
        · exact ih
/-- what is known is what the machine has -/
def Right (M : Mach) (kn : List (List Int × Int)) : Prop := ∀ w z, toldOf kn w = some z → z = ansM M w
/-- a list of lists of ints -/
def LA (H : Hp) (a : Addr) (S : List (List Int)) : Prop := ∃ ts : List Addr, H a = some (.lst (ts.map V.ref)) ∧ LL H ts S
/-- how many words are lacking -/
def lackN (kn : List (List Int × Int)) (ws : List (List Int)) : Nat := (ws.filter fun w => decide (toldOf kn w = none)).length
theorem lack_push {kn : List (List Int × Int)} {ws : List (List Int)} {w : List Int} {z : Int} (h : toldOf kn w = none) (hw : w ∈ ws) : lackN (kn ++ [(w, z)]) ws < lackN kn ws := by
  unfold lackN
  refine flt_lt (w := w) (fun x hx => ?_) hw (decide_eq_true h) (decide_eq_false ?_)
  · have hx := of_decide_eq_true hx
    refine decide_eq_true ?_
    rw [told_push h] at hx
    by_cases c : w = x
    · rw [if_pos c] at hx
      cases hx
    · rw [if_neg c] at hx
      exact hx
  · rw [told_push h, if_pos rfl]
    exact fun z => by cases z
theorem Right.push {M : Mach} {kn : List (List Int × Int)} {w : List Int} (h : Right M kn) (n : toldOf kn w = none) : Right M (kn ++ [(w, ansM M w)]) := fun x z e => by
  rw [told_push n] at e
  by_cases c : w = x
  · rw [if_pos c] at e
    rw [← c]
    exact (Option.some.inj e).symm
  · rw [if_neg c] at e
    exact h x z e
theorem due_some {kn : List (List Int × Int)} {L : Nat} {S T : List (List Int)} {w : List Int} (h : dueOf kn L S T = some w) : w ∈ wordsOf L S T ∧ toldOf kn w = none :=
  ⟨List.mem_of_find?_eq_some h, of_decide_eq_true (List.find?_some (p := fun w => decide (toldOf kn w = none)) (l := wordsOf L S T) h)⟩
theorem due_none {kn : List (List Int × Int)} {L : Nat} {S T : List (List Int)} (h : dueOf kn L S T = none) {w : List Int} (hw : w ∈ wordsOf L S T) : toldOf kn w ≠ none := fun z => List.find?_eq_none.mp h w hw (decide_eq_true z)
theorem rows_lt {M : Mach} {L : Nat} {S T : List (List Int)} (fi : Fine M L S T) {r : List Int} (h : r ∈ rowsOf L S) : Lt (L : Int) r := by
  rcases List.mem_append.mp h with z | z
  · exact fi.sl r z
  · obtain ⟨u, hu, hw⟩ := List.mem_flatMap.mp (List.mem_filter.mp z).1
    obtain ⟨b, hb, rfl⟩ := List.mem_map.mp hw
    exact K11.Lt.snoc (fi.sl u hu) (by have := List.mem_range.mp hb; omega)
theorem words_lt {M : Mach} {L : Nat} {S T : List (List Int)} (fi : Fine M L S T) {w : List Int} (h : w ∈ wordsOf L S T) : Lt (L : Int) w := by
  obtain ⟨r, hr, hw⟩ := List.mem_flatMap.mp h
  obtain ⟨t, ht, rfl⟩ := List.mem_map.mp hw
  exact K11.Lt.app (rows_lt fi hr) (fi.tl t ht)
theorem But.la {H H' : Hp} {d a : Addr} {S : List (List Int)} (b : But H H' d) {kvs : List (List L2.Key × V)} (hd : H d = some (.dT kvs)) (h : LA H a S) : LA H' a S := by
  have ne : ∀ {a : Addr} {xs : List V}, H a = some (.lst xs) → a ≠ d := fun q z => by
    rw [z, hd] at q
    cases q
  obtain ⟨ts, e, l⟩ := h
  exact ⟨ts, b _ _ e (ne e), l.1, fun i a w p q => b _ _ (l.2 i a w p q) (ne (l.2 i a w p q))⟩
theorem But.ma {H H' : Hp} {d m : Addr} {M : Mach} (b : But H H' d) {kvs : List (List L2.Key × V)} (hd : H d = some (.dT kvs)) (h : MA H m M) : MA H' m M := by
  have ne : ∀ {a : Addr} {xs : List V}, H a = some (.tup xs) → a ≠ d := fun q z => by
    rw [z, hd] at q
    cases q
  obtain ⟨mv, ou, rs, h⟩ := h
  exact ⟨mv, ou, rs, b _ _ h.top (ne h.top), b _ _ h.mv (ne h.mv), b _ _ h.ou (ne h.ou), h.len, fun i r w p q => b _ _ (h.row i r w p q) (ne (h.row i r w p q))⟩
theorem But.tab {C : Addr} {H H' : Hp} {d p sd td : Addr} {L : Int} {S T : List (List Int)} (b : But H H' d) {kvs : List (List L2.Key × V)} (hd : H d = some (.dT kvs)) (h : TabAt C H p sd td L S T) (n1 : sd ≠ d) (n2 : td ≠ d) : TabAt C H' p sd td L S T := by
  obtain ⟨dx, ob⟩ := h.ob
  exact ⟨⟨dx, b _ _ ob fun z => by rw [z, hd] at ob; cases ob⟩, b _ _ h.st n1, b _ _ h.tl n2⟩
/-- the law's own world: a table, a machine, the state words and columns as lists, what is known -/
structure Wd (A : Ads) (H : Hp) (p sd td m a b kd : Addr) (M : Mach) (L : Nat) (S T : List (List Int)) (kn : List (List Int × Int)) : Prop where
  tab : TabAt A.a_Table H p sd td (L : Int) S T
  ma : MA H m M
  la : LA H a S
  lb : LA H b T
  kno : H kd = some (.dT (kvsO kn))
  ri : Right M kn
  fi : Fine M L S T
  ks : kd ≠ sd
  kt : kd ≠ td
  st : sd ≠ td
  go : Good M
  ab : a ≠ b
theorem Wd.but {A : Ads} {H H' : Hp} {p sd td m a b kd : Addr} {M : Mach} {L : Nat} {S T : List (List Int)} {kn kn' : List (List Int × Int)} (h : Wd A H p sd td m a b kd M L S T kn) (bt : But H H' kd) (e : H' kd = some (.dT (kvsO kn'))) (r : Right M kn') : Wd A H' p sd td m a b kd M L S T kn' :=
  ⟨K11.But.tab bt h.kno h.tab (Ne.symm h.ks) (Ne.symm h.kt), K11.But.ma bt h.kno h.ma, K11.But.la bt h.kno h.la, K11.But.la bt h.kno h.lb, e, r, h.fi, h.ks, h.kt, h.st, h.go, h.ab⟩
theorem LA.same {H H' : Hp} {a : Addr} {S : List (List Int)} (h : LA H a S) (s : Same H H') : LA H' a S := by
  obtain ⟨ts, e, l⟩ := h
  exact ⟨ts, s _ _ e, l.same s⟩
theorem Wd.same {A : Ads} {H H' : Hp} {p sd td m a b kd : Addr} {M : Mach} {L : Nat} {S T : List (List Int)} {kn : List (List Int × Int)} (h : Wd A H p sd td m a b kd M L S T kn) (s : Same H H') : Wd A H' p sd td m a b kd M L S T kn :=
  ⟨h.tab.same s, h.ma.same s, LA.same h.la s, LA.same h.lb s, s _ _ h.kno, h.ri, h.fi, h.ks, h.kt, h.st, h.go, h.ab⟩
def spFilled (A : Ads) : Sp := fun vs H Q _ => ∃ (p sd td m a b kd : Addr) (M : Mach) (L : Nat) (S T : List (List Int)) (kn : List (List Int × Int)), vs = [.ref p, .ref m, .ref a, .ref b, .ref kd] ∧ Wd A H p sd td m a b kd M L S T kn ∧ (wordsOf L S T).length ≤ 199 ∧ kn.length ≤ 100000 ∧
  ∀ (H' : Hp) (kn' : List (List Int × Int)), But H H' kd → Wd A H' p sd td m a b kd M L S T kn' → (∀ w ∈ wordsOf L S T, toldOf kn' w ≠ none) → kn'.length ≤ kn.length + 200 → Q (.bl true) H'
section
variable {P : Program} {w : World} {K : PySem.W.Frag} {mg : Str → Option Value} {base : Heap} {A : Ads}
theorem ok_filled (T : Txt K mg A) : FnOk P w K mg base CX0 3 A.a_law_filled A.d_law_filled ["table", "machine", "states", "columns", "known"] (spFilled A) := by
  have G_law_wanted : FnOk P w K mg base CX0 2 A.a_law_wanted A.d_law_wanted ["states", "columns", "letters", "known"] spLWanted := ok_lwanted T
  have G_Table_wanted : FnOk P w K mg base CX0 2 A.a_Table_wanted A.d_Table_wanted ["self", "known"] (spWanted A) := ok_wanted T
  have G_law_output : FnOk P w K mg base CX0 2 A.a_law_output A.d_law_output ["machine", "word"] (spOutput K) := ok_output T
  refine T.F_law_filled.ok sc_law_filled (fun vs H Q E h => ?_) (fun cdv Ar outer s H vs Q E hr h => ?_)
  · obtain ⟨_, _, _, _, _, _, _, _, _, _, _, _, rfl, _⟩ := h
    rfl
  · have hr_law_wanted : Room 2 _ := hr
    have hr_Table_wanted : Room 2 _ := hr
    have hr_law_output : Room 2 _ := hr
    refine ⟨_, (pss_cons (ps_for PassesOwn.never rfl (pi_range1 (by rfl) T.n_range (pa_cons pe_int pa_nil)) (pg_name (i := 5) sc_law_filled.nd rfl (Or.inl rfl))
        (pss_cons (ps_set (i := 6) sc_law_filled.nd rfl (Or.inl rfl) (pe_call G_law_wanted hr_law_wanted (by rfl) T.g_law_wanted T.F_law_wanted.kp T.b_law_wanted .nil pass0 (pa_cons (pv 2) (pa_cons (pv 3) (pa_cons (pe_ix (r := rIx K) ix_seq (pv 1) pe_int (fun _ _ => rfl)) (pa_cons (pv 4) pa_nil))))))
          (pss_cons (ps_set (i := 7) sc_law_filled.nd rfl (Or.inl rfl) (pe_meth (pv 0) T.cl_Table T.m_Table_wanted G_Table_wanted hr_Table_wanted T.b_Table_wanted .nil pass0 (pa_cons (pv 4) pa_nil)))
          (pss_cons (ps_if (PW.pt (pw_or (pt_cmpR (op_neD hr.units) (pv 7) (pv 6) (nomark _)) (pw_or1 (pt_cmpR (op_neD hr.units) (pe_meth (pv 0) T.cl_Table T.m_Table_wanted G_Table_wanted hr_Table_wanted T.b_Table_wanted .nil pass0 (pa_cons (pv 4) pa_nil)) (pv 6) (nomark _))))) (pss_one (ps_ret pe_bl)) pss_nil)
          (pss_cons (ps_if (pt_cmpR op_isN (pv 6) pe_non (nomark _)) (pss_one (ps_ret pe_bl)) pss_nil)
          (pss_cons (ps_asg (pe_call G_law_output hr_law_output (by rfl) T.g_law_output T.F_law_output.kp T.b_law_output .nil pass0 (pa_cons (pv 1) (pa_cons (pv 6) pa_nil))) (pg_sub (pv 4) (pe_callTy call_tuple_of (by rfl) T.n_tuple (by decide +kernel) (pa_cons (pv 6) pa_nil)) (set_dict (hu_of hr))))
          (pss_one (ps_expr (pe_bm PySem.F.plainAttrs_list PySem.F.slot_list_append PySem.F.type_list_append mt_append (pv 7) (pa_cons pe_int pa_nil))))))))))
      (pss_one (ps_ret pe_bl))), ?_⟩
    obtain ⟨p, sd, td, m, a, b, kd, M, L, S, Tl, kn0, rfl, wd0, few, kf, fin⟩ := h
    refine ⟨200, rfl, by decide, by decide, for_range (n := 200) (fun i σ H' => ∃ (v5 v6 v7 : Option V) (kn : List (List Int × Int)), σ = [some (.ref p), some (.ref m), some (.ref a), some (.ref b), some (.ref kd), v5, v6, v7] ∧ But H H' kd ∧ Wd A H' p sd td m a b kd M L S Tl kn ∧ lackN kn (wordsOf L S Tl) + i ≤ 199 ∧ kn.length ≤ kn0.length + i)
      ⟨_, _, _, kn0, rfl, fun b o e _ => e, wd0, by have := List.length_filter_le (fun w => decide (toldOf kn0 w = none)) (wordsOf L S Tl); unfold lackN; omega, Nat.le_refl _⟩ ?_ ?_⟩
    · rintro i σ H1 hi ⟨v5, v6, v7, kn, rfl, bt, wd, lk, kl⟩
      obtain ⟨mv, ou, rs, hMt⟩ := id wd.ma
      obtain ⟨ts, ea, hl⟩ := id wd.la
      obtain ⟨us, eb, hu⟩ := id wd.lb
      obtain ⟨⟨dx, ob⟩, di, dt⟩ := id wd.tab
      have fi := wd.fi
      refine ⟨_, rfl, _, rfl, _, rfl, .inr (.inl ⟨m, _, 0, .int M.ls, rfl, rfl, SqT.of hMt.top, rfl, _, rfl, ?_⟩)⟩
      refine ⟨a, b, kd, ts, us, S, Tl, L, kn, by rw [fi.ls]; rfl, ea, hl, eb, hu, fi.sm, wd.kno, fun no H2 s2 => ?_, fun w due H2 q s2 hq eq => ?_⟩
      · have wd2 := wd.same s2
        refine ⟨_, rfl, p, dx, _, rfl, s2 _ _ ob, sF_no _ _ _ (by decide +kernel) (by decide +kernel) (by decide +kernel), _, rfl, ?_⟩
        refine ⟨p, sd, td, kd, L, S, Tl, kn, rfl, wd2.tab, fi.sm, wd2.kno, wd.ks, wd.kt, wd.st, fun _ H3 s3 => ?_, fun w due => by rw [no] at due; cases due⟩
        have wd3 := wd2.same s3
        refine ⟨_, rfl, _, rfl, .none, .none, .non, .non, rfl, rfl, _, rfl, ifDF rfl ?_⟩
        refine ⟨_, rfl, p, dx, _, rfl, (s2.trans s3) _ _ ob, sF_no _ _ _ (by decide +kernel) (by decide +kernel) (by decide +kernel), _, rfl, ?_⟩
        refine ⟨p, sd, td, kd, L, S, Tl, kn, rfl, wd3.tab, fi.sm, wd3.kno, wd.ks, wd.kt, wd.st, fun _ H4 s4 => ?_, fun w due => by rw [no] at due; cases due⟩
        have s14 := (s2.trans s3).trans s4
        refine ⟨_, rfl, .none, .none, .non, .non, rfl, rfl, _, rfl, ifDF rfl ?_⟩
        refine ⟨_, rfl, rfl, _, rfl, ifDT rfl ?_⟩
        exact fin H4 kn (bt.trans (Same.but s14)) (wd.same s14) (fun w hw => due_none no hw) (by omega)
      · have wd2 := wd.same s2
        refine ⟨_, rfl, p, dx, _, rfl, s2 _ _ ob, sF_no _ _ _ (by decide +kernel) (by decide +kernel) (by decide +kernel), _, rfl, ?_⟩
        refine ⟨p, sd, td, kd, L, S, Tl, kn, rfl, wd2.tab, fi.sm, wd2.kno, wd.ks, wd.kt, wd.st, fun no => by (rw [no] at due; cases due), fun w2 due2 H3 r s3 hr3 er => ?_⟩
        obtain rfl : w = w2 := by
          rw [due] at due2
          exact Option.some.inj due2
        have wd3 := wd2.same s3
        obtain ⟨inW, nk⟩ := due_some due
        refine ⟨_, rfl, _, rfl, dLst w, dLst w, dp_l er, dp_l (s3 _ _ eq), shaped_l _, shaped_l _, _, rfl, ?_⟩
        rw [eqv_l, decide_eq_true rfl]
        refine ifDF rfl ?_
        refine ⟨_, rfl, p, dx, _, rfl, (s2.trans s3) _ _ ob, sF_no _ _ _ (by decide +kernel) (by decide +kernel) (by decide +kernel), _, rfl, ?_⟩
        refine ⟨p, sd, td, kd, L, S, Tl, kn, rfl, wd3.tab, fi.sm, wd3.kno, wd.ks, wd.kt, wd.st, fun no => by (rw [no] at due; cases due), fun w2 due2 H4 r2 s4 hr4 er2 => ?_⟩
        obtain rfl : w = w2 := by
          rw [due] at due2
          exact Option.some.inj due2
        have wd4 := wd3.same s4
        have eq4 := s4 _ _ (s3 _ _ eq)
        have er4 := s4 _ _ er
        refine ⟨_, rfl, dLst w, dLst w, dp_l er2, dp_l eq4, shaped_l _, shaped_l _, _, rfl, ?_⟩
        rw [eqv_l, decide_eq_true rfl]
        refine ifDF rfl ?_
        refine ⟨_, rfl, rfl, _, rfl, ifDF rfl ?_⟩
        refine ⟨_, rfl, _, rfl, m, q, M, w, rfl, wd4.ma, wd.go, SqL.of eq4, by rw [fi.ls]; exact words_lt fi inW, ?_⟩
        refine ⟨_, rfl, _, rfl, q, _, rfl, .inl ⟨SqL.of eq4, fun t ht => ?_⟩⟩
        have s5 := same_upd (o := .tup (w.map V.int)) (Same.refl H4) ht
        have et : (upd H4 t (.tup (w.map V.int))) t = some (.tup ((keyW w).map kV)) := by rw [keyW_V, upd_same]
        have wd5 := wd4.same s5
        have er5 := s5 _ _ er4
        generalize upd H4 t (.tup (w.map V.int)) = H5 at *
        have s15 := ((s2.trans s3).trans s4).trans s5
        refine ⟨kd, _, rfl, DPut.t wd5.kno et ?_, ?_⟩
        · unfold kvsO
          rw [List.length_map]
          exact Nat.lt_of_le_of_lt (by omega : kn.length ≤ 200000) (by decide)
        rw [kvsO_push nk]
        have rk : r ≠ kd := fun z => by
          rw [z, wd5.kno] at er5
          cases er5
        have er6 : (upd H5 kd (.dT (kvsO (kn ++ [(w, ansM M w)])))) r = some (.lst (w.map V.int)) := by rw [upd_ne rk]; exact er5
        refine ⟨_, rfl, .inl ⟨rfl, _, SqL.of er6⟩, r, _, _, rfl, rfl, er6, ?_, ?_⟩
        · rw [List.length_map]
          obtain ⟨r0, hr0, hw0⟩ := List.mem_flatMap.mp inW
          obtain ⟨t0, ht0, rfl⟩ := List.mem_map.mp hw0
          rw [List.length_append]
          have h1 := rows_len fi.sm hr0
          have h2 := fi.sm.ts t0 ht0
          exact Nat.lt_of_le_of_lt (by omega : r0.length + t0.length ≤ 4000) (by decide)
        have bt2 : But H1 (upd (upd H5 kd (.dT (kvsO (kn ++ [(w, ansM M w)])))) r (.lst (w.map V.int ++ [V.int 0]))) kd := fun c o e n => by
          have e5 := s15 _ _ e
          rw [upd_ne fun z => ?_, upd_ne n]
          · exact e5
          · rw [z, s2.free hr3] at e
            cases e
        refine ⟨_, _, _, kn ++ [(w, ansM M w)], rfl, bt.trans bt2, wd.but bt2 ?_ (wd.ri.push nk), ?_, ?_⟩
        · rw [upd_ne (Ne.symm rk), upd_same]
        · have := lack_push (z := ansM M w) nk inW
          omega
        · rw [List.length_append]
          show kn.length + 1 ≤ _
          omega
    · rintro σ H1 ⟨v5, v6, v7, kn, rfl, bt, wd, lk, kl⟩
      omega
end
end K11

set_option Elab.async false
set_option linter.all false
set_option maxRecDepth 100000
set_option maxHeartbeats 4000000
namespace K11
open PySem PySem.Spec PyProof.Rows L2 Mz
def newM (M : Mach) (L : Nat) (S T : List (List Int)) : Option (List Int) := (rowsOf L S).find? fun w => decide (rowM M T w ∉ S.map (rowM M T))
theorem find_congr {α : Type} {p q : α → Bool} : ∀ {l : List α}, (∀ x ∈ l, p x = q x) → l.find? p = l.find? q
  | [], _ => rfl
  | x :: l, h => by
    rw [List.find?_cons, List.find?_cons, h x (.head _), find_congr fun y hy => h y (.tail _ hy)]
section
variable {M : Mach} {L : Nat} {S T : List (List Int)} {kn : List (List Int × Int)}
theorem told_is (r : Right M kn) {w : List Int} (h : toldOf kn w ≠ none) : toldOf kn w = some (ansM M w) := by
  cases e : toldOf kn w with
  | none => exact absurd e h
  | some z => rw [r w z e]
theorem row_is (r : Right M kn) (all : ∀ w ∈ wordsOf L S T, toldOf kn w ≠ none) {w : List Int} (h : w ∈ rowsOf L S) : rowOf kn T w = rowM M T w := by
  unfold rowOf rowM
  refine List.map_congr_left fun t ht => ?_
  rw [told_is r (all _ (List.mem_flatMap.mpr ⟨w, h, List.mem_map.mpr ⟨t, ht, rfl⟩⟩))]
  rfl
theorem map_is (r : Right M kn) (all : ∀ w ∈ wordsOf L S T, toldOf kn w ≠ none) : S.map (rowOf kn T) = S.map (rowM M T) :=
  List.map_congr_left fun w hw => row_is r all (List.mem_append_left _ hw)
theorem full_is (all : ∀ w ∈ wordsOf L S T, toldOf kn w ≠ none) : Full kn L S T := fun w hw t ht => by
  have := all _ (List.mem_flatMap.mpr ⟨w, hw, List.mem_map.mpr ⟨t, ht, rfl⟩⟩)
  cases e : toldOf kn (w ++ t) with
  | none => exact absurd e this
  | some z => exact ⟨z, rfl⟩
theorem own_is (all : ∀ w ∈ wordsOf L S T, toldOf kn w ≠ none) (e : [] ∈ T) : ∀ w ∈ S, toldOf kn w ≠ none := fun w hw => by
  have := all (w ++ []) (List.mem_flatMap.mpr ⟨w, List.mem_append_left _ hw, List.mem_map.mpr ⟨[], e, rfl⟩⟩)
  rw [List.append_nil] at this
  exact this
theorem closed_is (r : Right M kn) (all : ∀ w ∈ wordsOf L S T, toldOf kn w ≠ none) : Closed kn L S T ↔ ClosedM M L S T := by
  unfold Closed ClosedM
  rw [map_is r all]
  constructor
  · intro h w hw a ha
    rw [← row_is r all (more_in hw ha)]
    exact h w hw a ha
  · intro h w hw a ha
    rw [row_is r all (more_in hw ha)]
    exact h w hw a ha
theorem made_is (r : Right M kn) (all : ∀ w ∈ wordsOf L S T, toldOf kn w ≠ none) (e : [] ∈ T) : madeOf kn L M.os S T = madeM M L S T := by
  unfold madeOf madeM
  rw [map_is r all]
  congr 1
  · refine List.map_congr_left fun w hw => List.map_congr_left fun a ha => ?_
    rw [row_is r all (more_in hw (List.mem_range.mp ha))]
  · refine List.map_congr_left fun w hw => ?_
    rw [told_is r (own_is all e w hw)]
    rfl
theorem new_is (r : Right M kn) (all : ∀ w ∈ wordsOf L S T, toldOf kn w ≠ none) : newRow kn L S T = newM M L S T := by
  unfold newRow newM
  rw [map_is r all]
  exact find_congr fun w hw => by rw [row_is r all hw]
theorem wrong_is (r : Right M kn) (all : ∀ w ∈ wordsOf L S T, toldOf kn w ≠ none) {Md : Mach} : wrongOf kn Md S T = wrongM M Md S T := by
  unfold wrongOf wrongM
  refine find_congr fun y hy => ?_
  obtain ⟨x, hx, hm⟩ := List.mem_flatMap.mp hy
  obtain ⟨t, ht, rfl⟩ := List.mem_map.mp hm
  have hx2 := List.mem_of_getElem? (List.mem_zipIdx_iff_getElem?.mp hx)
  have h := told_is r (all (x.1 ++ t) (List.mem_flatMap.mpr ⟨x.1, List.mem_append_left _ hx2, List.mem_map.mpr ⟨t, ht, rfl⟩⟩))
  show decide (Md.out (Md.run (x.2 : Int) t) ≠ (toldOf kn (x.1 ++ t)).getD 0) = decide (Md.out (Md.run (x.2 : Int) t) ≠ ansM M (x.1 ++ t))
  rw [h]
  rfl
theorem ixI_lt {rows : List (List Int)} {r : List Int} (h : r ∈ rows) : 0 ≤ ixI rows r ∧ ixI rows r < (rows.length : Int) := by
  unfold ixI
  have := List.idxOf_lt_length_of_mem h
  omega
theorem made_good (g : Good M) (fi : Fine M L S T) (cl : ClosedM M L S T) (s1 : 1 ≤ S.length) (s30 : S.length ≤ 30) : Good (madeM M L S T) := by
  have sm := fi.sm
  refine ⟨by show 1 ≤ (L : Int); have := sm.l1; omega, by show (L : Int) ≤ 4; have := sm.l4; omega, g.o1, g.o6, ?_, ?_, ?_, ?_, ?_, ?_⟩
  · show 1 ≤ (S.map _).length
    rw [List.length_map]
    exact s1
  · show (S.map _).length ≤ 30
    rw [List.length_map]
    exact s30
  · show (S.map _).length = (S.map _).length
    rw [List.length_map, List.length_map]
  · intro w hw
    obtain ⟨u, _, rfl⟩ := List.mem_map.mp hw
    rw [List.length_map, List.length_range]
    rfl
  · intro w hw z hz
    obtain ⟨u, hu, rfl⟩ := List.mem_map.mp hw
    obtain ⟨a, ha, rfl⟩ := List.mem_map.mp hz
    have := ixI_lt (cl u hu a (List.mem_range.mp ha))
    show 0 ≤ ixI _ _ ∧ ixI _ _ < (((S.map _).length : Nat) : Int)
    rw [List.length_map] at this ⊢
    exact this
  · intro z hz
    obtain ⟨u, hu, rfl⟩ := List.mem_map.mp hz
    have lt : Lt M.ls u := by rw [fi.ls]; exact fi.sl u hu
    exact (g.outp (g.runs g.st0 lt)).2
theorem new_not (h : newM M L S T = some w) : w ∉ S ∧ w ∈ rowsOf L S ∧ rowM M T w ∉ S.map (rowM M T) := by
  have h1 := List.mem_of_find?_eq_some h
  have h2 := of_decide_eq_true (List.find?_some (p := fun w => decide (rowM M T w ∉ S.map (rowM M T))) (l := rowsOf L S) h)
  exact ⟨fun z => h2 (List.mem_map.mpr ⟨w, z, rfl⟩), h1, h2⟩
end
theorem LA.kp {Pt : Addr} {H H' : Hp} {a : Addr} {S : List (List Int)} (h : LA H a S) (t : GxR.TabG H Pt) (k : Kp Pt H H') : LA H' a S := by
  obtain ⟨ts, e, l⟩ := h
  exact ⟨ts, Kp.lst t k e, l.1, fun i a w p q => Kp.lst t k (l.2 i a w p q)⟩
theorem TabAt.kp {Pt : Addr} {C : Addr} {H H' : Hp} {p sd td : Addr} {L : Int} {S T : List (List Int)} (h : TabAt C H p sd td L S T) (t : GxR.TabG H Pt) (k : Kp Pt H H') : TabAt C H' p sd td L S T := by
  obtain ⟨dx, ob⟩ := h.ob
  exact ⟨⟨dx, k.keep _ _ (tab_ne t ob fun ps z => by cases z) ob⟩, k.keep _ _ (tab_ne t h.st fun ps z => by cases z) h.st, k.keep _ _ (tab_ne t h.tl fun ps z => by cases z) h.tl⟩
theorem Wd.kp {Pt : Addr} {A : Ads} {H H' : Hp} {p sd td m a b kd : Addr} {M : Mach} {L : Nat} {S T : List (List Int)} {kn : List (List Int × Int)} (h : Wd A H p sd td m a b kd M L S T kn) (t : GxR.TabG H Pt) (k : Kp Pt H H') : Wd A H' p sd td m a b kd M L S T kn :=
  ⟨K11.TabAt.kp h.tab t k, Kp.ma t k h.ma, LA.kp h.la t k, LA.kp h.lb t k, k.keep _ _ (tab_ne t h.kno fun ps z => by cases z) h.kno, h.ri, h.fi, h.ks, h.kt, h.st, h.go, h.ab⟩
theorem LA.ne {H : Hp} {a x : Addr} {ts : List Addr} {S : List (List Int)} {v : List Int} (e : H a = some (.lst (ts.map V.ref))) (l : LL H ts S) (ne : S ≠ []) (q : H x = some (.lst (v.map V.int))) : x ≠ a := fun z => by
  obtain ⟨t0, tr, ht⟩ : ∃ t0 tr, ts = t0 :: tr := by
    cases ts with
    | nil => exact absurd (List.length_eq_zero_iff.mp l.1.symm) ne
    | cons t0 tr => exact ⟨t0, tr, rfl⟩
  rw [z, e] at q
  have q := HO.lst.inj (Option.some.inj q)
  rw [ht] at q
  cases v with
  | nil => cases q
  | cons y v => cases q
theorem LA.push {H : Hp} {a u : Addr} {ts : List Addr} {S : List (List Int)} {w : List Int} (e : H a = some (.lst (ts.map V.ref))) (l : LL H ts S) (ne : S ≠ []) (hu : H u = some (.lst (w.map V.int))) : LA (upd H a (.lst (ts.map V.ref ++ [V.ref u]))) a (S ++ [w]) := by
  obtain ⟨t0, tr, ht⟩ : ∃ t0 tr, ts = t0 :: tr := by
    cases ts with
    | nil => exact absurd (List.length_eq_zero_iff.mp l.1.symm) ne
    | cons t0 tr => exact ⟨t0, tr, rfl⟩
  have na : ∀ {x : Addr} {v : List Int}, H x = some (.lst (v.map V.int)) → x ≠ a := fun {x v} q z => by
    rw [z, e] at q
    have q := HO.lst.inj (Option.some.inj q)
    rw [ht] at q
    cases v with
    | nil => cases q
    | cons y v => cases q
  refine ⟨ts ++ [u], by rw [upd_same, List.map_append]; rfl, by rw [List.length_append, List.length_append, l.1]; rfl, fun i x v h1 h2 => ?_⟩
  have q : H x = some (.lst (v.map V.int)) := by
    by_cases c : i < ts.length
    · rw [List.getElem?_append_left c] at h1
      rw [List.getElem?_append_left (by rw [← l.1]; exact c)] at h2
      exact l.2 i x v h1 h2
    · rw [List.getElem?_append_right (by omega)] at h1
      rw [List.getElem?_append_right (by have := l.1; omega), ← l.1] at h2
      obtain ⟨z1, _⟩ := List.getElem?_eq_some_iff.mp h1
      have z0 : i - ts.length = 0 := by simp at z1; omega
      rw [z0] at h1 h2
      cases h1
      cases h2
      exact hu
  exact (upd_ne (na q)).trans q
end K11

set_option Elab.async false
set_option linter.all false
set_option maxRecDepth 100000
set_option maxHeartbeats 4000000
namespace K11
open PySem PySem.Spec PyProof.Rows L2 Mz
def Keep3 (x y z : Addr) (H H' : Hp) : Prop := ∀ b o, b ≠ x → b ≠ y → b ≠ z → H b = some o → H' b = some o
theorem lay_two (w t : List Int) : PyData.canLay0 (.tuple [dLst w, dLst t]) = true := by
  have h1 := lay_ints w
  have h2 := lay_ints t
  simp [PyData.canLay0, PyData.canLayAll0, dLst, *]
theorem shaped_two (w t : List Int) : SeqAt.shaped (.tuple [dLst w, dLst t]) = true := by
  have d1 := depthI w
  have d2 := depthI t
  have h3 : PyData.depth (.tuple [dLst w, dLst t]) ≤ 64 := by
    simp only [PyData.depth, PyData.depthAll, dLst]
    omega
  have h4 := lay_two w t
  show (PyData.canLay0 (.tuple [dLst w, dLst t]) && decide (PyData.depth (.tuple [dLst w, dLst t]) ≤ 64)) = true
  rw [h4, decide_eq_true h3]
  rfl
def spExtended (A : Ads) (Pt : Addr) : Sp := fun vs H Q _ => ∃ (p sd td m a b kd : Addr) (M : Mach) (L : Nat) (S T : List (List Int)) (kn : List (List Int × Int)), vs = [.ref p, .ref m, .ref a, .ref b, .ref kd] ∧ Wd A H p sd td m a b kd M L S T kn ∧ GxR.TabG H Pt ∧ (∀ w ∈ wordsOf L S T, toldOf kn w ≠ none) ∧ [] ∈ T ∧ 1 ≤ S.length ∧ S.length ≤ 29 ∧ (∀ w ∈ S, w.length ≤ S.length) ∧
  ∀ (H' : Hp) (S' : List (List Int)), Keep3 Pt sd a H H' → GxR.TabG H' Pt → Wd A H' p sd td m a b kd M L S' T kn → (S' = S ∨ ∃ w, S' = S ++ [w] ∧ newM M L S T = some w) → Q (.bl true) H'
section
variable {P : Program} {w : World} {K : PySem.W.Frag} {mg : Str → Option Value} {base : Heap} {A : Ads} {c Pt : Addr}
theorem ok_extended (T : Txt K mg A) (TB : GxR.TabB base mg c Pt) (hc : A.d_Table_machine.code = .ref c) : FnOk P w K mg base CX0 7 A.a_law_extended A.d_law_extended ["table", "machine", "states", "columns", "known"] (spExtended A Pt) := by
  have G_law_row : FnOk P w K mg base CX0 3 A.a_law_row A.d_law_row ["machine", "word", "columns"] (spLRow K) := ok_lrow T
  have G_law_rows : FnOk P w K mg base CX0 1 A.a_law_rows A.d_law_rows ["states", "letters"] spLRows := ok_lrows T
  have G_law_made : FnOk P w K mg base CX0 4 A.a_law_made A.d_law_made ["machine", "states", "columns"] spMade := ok_made T
  have G_law_machine_told : FnOk P w K mg base CX0 6 A.a_law_machine_told A.d_law_machine_told ["table", "outs", "known"] (spMachineTold A Pt) := ok_machinetold T TB hc
  have G_law_mistake : FnOk P w K mg base CX0 3 A.a_law_mistake A.d_law_mistake ["machine", "made", "states", "columns"] spLMistake := ok_lmistake T
  have G_Table_mistake : FnOk P w K mg base (L2N.CX P w) 6 A.a_Table_mistake A.d_Table_mistake ["self", "outs", "known"] (spMistake A Pt) := ok_mistake T TB hc
  have G_Table_extend : FnOk P w K mg base CX0 3 A.a_Table_extend A.d_Table_extend ["self", "known"] (spExtend A) := ok_extend T
  have G_Table_state_words : FnOk P w K mg base CX0 1 A.a_Table_state_words A.d_Table_state_words ["self"] (spStates A) := ok_states T
  have G_Table_columns : FnOk P w K mg base CX0 1 A.a_Table_columns A.d_Table_columns ["self"] (spColumns A) := ok_columns T
  refine T.F_law_extended.ok sc_law_extended (fun vs H Q E h => ?_) (fun cdv Ar outer s H vs Q E hr h => ?_)
  · obtain ⟨_, _, _, _, _, _, _, _, _, _, _, _, rfl, _⟩ := h
    rfl
  · have hr_law_row : Room 3 _ := hr.mono (by decide)
    have hr_law_rows : Room 1 _ := hr.mono (by decide)
    have hr_law_made : Room 4 _ := hr.mono (by decide)
    have hr_law_machine_told : Room 6 _ := hr
    have hr_law_mistake : Room 3 _ := hr.mono (by decide)
    have hr_Table_mistake : Room 6 _ := hr
    have hr_Table_extend : Room 3 _ := hr.mono (by decide)
    have hr_Table_state_words : Room 1 _ := hr.mono (by decide)
    have hr_Table_columns : Room 1 _ := hr.mono (by decide)
    refine ⟨_, (pss_cons (ps_setLc (i := 6) (own := [("word", 5)]) (g := (gName 5)) (tt := tYes) rfl sc_law_extended.nd rfl rfl (sw_true rfl rfl rfl (by decide +kernel)) (pi_list (pv 2)) (blkOk_by (N := ["table", "machine", "states", "columns", "known", "word", "rows", "due", "made", "told"]) (sc := defScope s_law_extended) (by decide +kernel)) (fun _ _ _ _ _ => (pg_name (i := 5) sc_law_extended.nd rfl (Or.inl rfl))) (fun _ _ _ _ _ => pts_nil) (fun _ _ _ _ _ => (pe_call G_law_row hr_law_row (by rfl) T.g_law_row T.F_law_row.kp T.b_law_row .nil pass0 (pa_cons (pv 1) (pa_cons (pv 5) (pa_cons (pv 3) pa_nil))))))
      (pss_cons (ps_set (i := 7) sc_law_extended.nd rfl (Or.inl rfl) pe_non)
      (pss_cons (ps_for PassesOwn.never rfl (pi_list (pe_call G_law_rows hr_law_rows (by rfl) T.g_law_rows T.F_law_rows.kp T.b_law_rows .nil pass0 (pa_cons (pv 2) (pa_cons (pe_ix (r := rIx K) ix_seq (pv 1) pe_int (fun _ _ => rfl)) pa_nil)))) (pg_name (i := 5) sc_law_extended.nd rfl (Or.inl rfl))
        (pss_one (ps_if (PW.pt (pw_and (pt_cmpR op_isN (pv 7) pe_non (nomark _)) (pw_and1 (pt_cmpR (op_notInD (hu65 hr)) (pe_call G_law_row hr_law_row (by rfl) T.g_law_row T.F_law_row.kp T.b_law_row .nil pass0 (pa_cons (pv 1) (pa_cons (pv 5) (pa_cons (pv 3) pa_nil)))) (pv 6) rfl)))) (pss_one (ps_set (i := 7) sc_law_extended.nd rfl (Or.inl rfl) (pv 5))) pss_nil)))
      (pss_cons (ps_set (i := 8) sc_law_extended.nd rfl (Or.inl rfl) (pe_call G_law_made hr_law_made (by rfl) T.g_law_made T.F_law_made.kp T.b_law_made .nil pass0 (pa_cons (pv 1) (pa_cons (pv 2) (pa_cons (pv 3) pa_nil)))))
      (pss_cons (ps_set (i := 9) sc_law_extended.nd rfl (Or.inl rfl) (pe_call G_law_machine_told hr_law_machine_told (by rfl) T.g_law_machine_told T.F_law_machine_told.kp T.b_law_machine_told .nil pass0 (pa_cons (pv 0) (pa_cons (pe_ix (r := rIx K) ix_seq (pv 1) pe_int (fun _ _ => rfl)) (pa_cons (pv 4) pa_nil)))))
      (pss_cons (ps_if (PW.pt (pw_or (PW.pt (pw_and (pt_cmpR op_isN (pv 8) pe_non (nomark _)) (pw_and1 (pt_cmpR (op_neD hr.units) (pv 9) (pe_lst (pa_cons pe_str (pa_cons pe_bl pa_nil))) (nomark _))))) (pw_or1 (PW.pt (pw_and (pt_cmpR op_notN (pv 8) pe_non (nomark _)) (pw_and1 (pt_cmpR (op_neD hr.units) (pv 9) (pv 8) (nomark _)))))))) (pss_one (ps_ret pe_bl)) pss_nil)
      (pss_cons (ps_if (PW.pt (pw_and (pt_cmpR op_notN (pv 8) pe_non (nomark _)) (pw_and1 (pt_cmpR (op_neD hr.units) (pe_meth (pv 0) T.cl_Table T.m_Table_mistake G_Table_mistake hr_Table_mistake T.b_Table_mistake .nil passN (pa_cons (pe_ix (r := rIx K) ix_seq (pv 1) pe_int (fun _ _ => rfl)) (pa_cons (pv 4) pa_nil))) (pe_call G_law_mistake hr_law_mistake (by rfl) T.g_law_mistake T.F_law_mistake.kp T.b_law_mistake .nil pass0 (pa_cons (pv 1) (pa_cons (pv 8) (pa_cons (pv 2) (pa_cons (pv 3) pa_nil))))) (nomark _))))) (pss_one (ps_ret pe_bl)) pss_nil)
      (pss_cons (ps_if (pt_cmpR op_ne (pe_meth (pv 0) T.cl_Table T.m_Table_extend G_Table_extend hr_Table_extend T.b_Table_extend .nil pass0 (pa_cons (pv 4) pa_nil)) (pe_cmpR op_notN (pv 7) pe_non (nomark _)) (nomark _)) (pss_one (ps_ret pe_bl)) pss_nil)
      (pss_cons (ps_if (pt_cmpR op_notN (pv 7) pe_non (nomark _)) (pss_one (ps_expr (pe_bm PySem.F.plainAttrs_list PySem.F.slot_list_append PySem.F.type_list_append mt_append (pv 2) (pa_cons (pv 7) pa_nil)))) pss_nil)
      (pss_one (ps_ret (pe_and (pe_cmpR (op_eqD hr.units) (pe_meth0 (pv 0) T.cl_Table T.m_Table_state_words G_Table_state_words hr_Table_state_words T.b_Table_state_words .nil pass0) (pv 2) (nomark _)) (pe_one (pe_cmpR (op_eqD hr.units) (pe_meth0 (pv 0) T.cl_Table T.m_Table_columns G_Table_columns hr_Table_columns T.b_Table_columns .nil pass0) (pv 3) (nomark _))))))))))))))), ?_⟩
    obtain ⟨p, sd, td, m, a, b, kd, M, L, S, Tl, kn, rfl, wd, hT, all, nilT, S1, S29, wS, fin⟩ := h
    obtain ⟨ts, ea, hl⟩ := id wd.la
    obtain ⟨us, eb, hu⟩ := id wd.lb
    obtain ⟨⟨dx, ob⟩, di, dt⟩ := id wd.tab
    have fi := wd.fi
    have sm := fi.sm
    have g := wd.go
    have hM := wd.ma
    -- the rows of the state words
    refine ⟨_, rfl, a, rfl, ⟨_, SqL.of ea⟩, fun D hD => ?_⟩
    refine lc_list (K := K) (a := a) (xs := ts.map V.ref) (fun i H' => Same H H' ∧ ∃ rs : List Addr, H' D = some (.lst (rs.map V.ref)) ∧ LLd H' rs ((S.take i).map (rowM M Tl)) D) ⟨same_upd (Same.refl _) hD, [], upd_same, LLd.nil⟩ (fun i H' _ z => SqL.of (z.1 _ _ ea)) ?_ ?_
    · rintro i y H2 hy ⟨s2, rs, e2, l2⟩
      obtain ⟨t, ht, rfl⟩ := ofV hy
      have il : i < S.length := by rw [← hl.1]; exact (List.getElem?_eq_some_iff.mp ht).1
      have ew := List.getElem?_eq_getElem il
      have et := s2 _ _ (hl.2 i t _ ht ew)
      generalize S[i] = w at *
      have wS := List.mem_of_getElem? ew
      refine ⟨rfl, ?_⟩
      refine ⟨_, rfl, _, rfl, _, rfl, m, t, b, M, us, w, Tl, rfl, hM.same s2, g, et, s2 _ _ eb, hu.same s2, by have := sm.ss w wS; omega, sm.t100, sm.ts, by rw [fi.ls]; exact fi.sl w wS, by rw [fi.ls]; exact fi.tl, fun H3 q s3 hq e3 => ?_⟩
      have lr := l2.1.1
      rw [List.length_map, List.length_take] at lr
      refine ⟨_, s3 _ _ e2, ?_, same_set (s2.trans s3) hD, rs ++ [q], by rw [upd_same, List.map_append]; rfl, ?_⟩
      · rw [List.length_map]
        exact Nat.lt_of_le_of_lt (by have := sm.s100; omega : rs.length ≤ 100) (by decide)
      · rw [take_more ew, List.map_append]
        exact (l2.same s3).push e3 (fun z => by rw [z, e2] at hq; cases hq) _
    rintro H2 ⟨s2, rs, e2, l2⟩
    rw [List.length_map, hl.1, List.take_length] at l2
    have l2 := l2.1
    -- the first new one
    obtain ⟨mv, ou, rs2, hMt⟩ := hM.same s2
    refine ⟨_, rfl, _, rfl, .inr (.inl ⟨m, _, 0, .int M.ls, rfl, rfl, SqT.of hMt.top, rfl, ?_⟩)⟩
    refine ⟨a, ts, S, L, by rw [fi.ls]; rfl, s2 _ _ ea, hl.same s2, sm.l1, sm.l4, sm.s100, sm.ss, fun H3 q ws s3 eq lw frw => ?_⟩
    have s23 := s2.trans s3
    refine ⟨q, rfl, ⟨_, SqL.of eq⟩, for_list (K := K) (a := q) (xs := ws.map V.ref) (fun i σ H' => ∃ (v5 v7 : Option V), σ = [some (.ref p), some (.ref m), some (.ref a), some (.ref b), some (.ref kd), v5, some (.ref D), v7, none, none] ∧ Same H3 H' ∧ ((((rowsOf L S).take i).find? fun w => decide (rowM M Tl w ∉ S.map (rowM M Tl))) = none ∧ v7 = some .non ∨ ∃ w u, (((rowsOf L S).take i).find? fun w => decide (rowM M Tl w ∉ S.map (rowM M Tl))) = some w ∧ v7 = some (.ref u) ∧ H' u = some (.lst (w.map V.int))))
      ⟨_, _, rfl, Same.refl _, .inl ⟨by simp, rfl⟩⟩ (fun i σ H' _ ⟨_, _, _, z, _⟩ => SqL.of (z _ _ eq)) ?_ ?_⟩
    · rintro i y σ H4 hy ⟨v5, v7, rfl, s4, or⟩
      obtain ⟨t, ht, rfl⟩ := ofV hy
      have il : i < (rowsOf L S).length := by rw [← lw.1]; exact (List.getElem?_eq_some_iff.mp ht).1
      have ew := List.getElem?_eq_getElem il
      have et := s4 _ _ (lw.2 i t _ ht ew)
      have wR := List.mem_of_getElem? ew
      generalize (rowsOf L S)[i] = w at *
      have s24 := s23.trans s4
      rw [take_more ew, List.find?_append]
      rcases or with ⟨no, rfl⟩ | ⟨w0, u, so, rfl, eu⟩
      · rw [no]
        refine ⟨_, rfl, rfl, _, rfl, ifDT rfl ?_⟩
        have lt : Lt M.ls w := by rw [fi.ls]; exact rows_lt fi wR
        refine ⟨_, rfl, _, rfl, _, rfl, m, t, b, M, us, w, Tl, rfl, hM.same s24, g, et, s24 _ _ eb, hu.same s24, rows_len sm wR, sm.t100, sm.ts, lt, by rw [fi.ls]; exact fi.tl, fun H5 r s5 hr5 er => ?_⟩
        have s35 := (s3.trans s4).trans s5
        refine ⟨_, rfl, notin_ll er (s35 _ _ e2) (l2.same s35) ⟨_, rfl, iteN2 (fun nin => ?_) (fun inn => ?_)⟩⟩
        · refine ⟨_, rfl, _, _, rfl, s4.trans s5, .inr ⟨w, t, ?_, rfl, s5 _ _ et⟩⟩
          rw [List.find?_cons, decide_eq_true nin]
          rfl
        · refine ⟨_, _, rfl, s4.trans s5, .inl ⟨?_, rfl⟩⟩
          rw [List.find?_cons, decide_eq_false (fun z => z inn)]
          rfl
      · rw [so]
        refine ⟨_, rfl, rfl, _, rfl, ifDF rfl ?_⟩
        exact ⟨_, _, rfl, s4, .inr ⟨w0, u, rfl, rfl, eu⟩⟩
    · rintro σ H4 ⟨v5, v7, rfl, s4, or⟩
      rw [List.length_map, lw.1, List.take_length] at or
      have or : (newM M L S Tl = none ∧ v7 = some .non) ∨ ∃ w u, newM M L S Tl = some w ∧ v7 = some (.ref u) ∧ H4 u = some (.lst (w.map V.int)) := or
      have s24 := s23.trans s4
      clear s3 s4 eq lw frw s23
      have wd4 := wd.same s24
      have hT4 : GxR.TabG H4 Pt := by
        obtain ⟨ps, q, r⟩ := hT
        exact ⟨ps, s24 _ _ q, r⟩
      refine ⟨_, rfl, _, rfl, _, rfl, m, a, b, M, ts, us, S, Tl, L, rfl, wd4.ma, g, s24 _ _ ea, hl.same s24, s24 _ _ eb, hu.same s24, fi, fun noC H5 s5 => ?noc, fun yesC H5 n s5 hn => ?yesc⟩
      case' noc =>
        have wd5 := wd4.same s5
        have hT5 : GxR.TabG H5 Pt := by
          obtain ⟨ps, q, r⟩ := hT4
          exact ⟨ps, s5 _ _ q, r⟩
        obtain ⟨mv5, ou5, rs5, hMt5⟩ := wd5.ma
        refine ⟨_, rfl, _, rfl, .inr (.inl ⟨m, _, 1, .int M.os, rfl, rfl, SqT.of hMt5.top, rfl, _, rfl, ?_⟩)⟩
        refine ⟨p, sd, td, kd, L, M.os, S, Tl, kn, rfl, wd5.tab, sm, wd5.kno, wd.ks, wd.kt, wd.st, full_is all, own_is all nilT, hT5, fun clo => absurd ((closed_is wd.ri all).mp clo) noC, fun _ H6 x k6 ex => ?_⟩
        refine ⟨_, rfl, rfl, _, rfl, ifDT rfl ?_⟩
        refine ⟨_, rfl, (by show 2 ≤ sizeLine; decide), fun y hy => ?_⟩
        have k7 := ((Kp.of hT4 s5).trans k6).andS (same_upd (o := .lst [.str (Str.ofString "missing"), .bl true]) (Same.refl H6) hy)
        have ex7 := (same_upd (o := .lst [.str (Str.ofString "missing"), .bl true]) (Same.refl H6) hy) _ _ ex
        have ey7 : (upd H6 y (.lst [.str (Str.ofString "missing"), .bl true])) y = some (.lst [.str (Str.ofString "missing"), .bl true]) := upd_same
        generalize upd H6 y (.lst [.str (Str.ofString "missing"), .bl true]) = H7 at *
        refine ⟨.list [.str (Str.ofString "missing"), .bool true], .list [.str (Str.ofString "missing"), .bool true], .lst (SqL.of ex7) (.cons (.str _) (.cons (.bl _) .nil)), .lst (SqL.of ey7) (.cons (.str _) (.cons (.bl _) .nil)), by decide +kernel, by decide +kernel, _, rfl, ?_⟩
        have ev : PyData.eqv (.list [.str (Str.ofString "missing"), .bool true]) (.list [.str (Str.ofString "missing"), .bool true]) = true := by decide +kernel
        rw [ev]
        refine ifDF rfl ?_
        refine ⟨_, rfl, rfl, _, rfl, ifDF rfl ?_⟩
        refine ⟨_, rfl, rfl, _, rfl, ifDF rfl ?_⟩
        refine ifDF rfl ?_
        clear ex7 ey7 ev hy ex hMt5
      case' yesc =>
        have wd5 := wd4.same s5
        have hT5 : GxR.TabG H5 Pt := by
          obtain ⟨ps, q, r⟩ := hT4
          exact ⟨ps, s5 _ _ q, r⟩
        have clo := (closed_is wd.ri all).mpr yesC
        have gMd := made_good g fi yesC S1 (by omega)
        obtain ⟨mv5, ou5, rs5, hMt5⟩ := wd5.ma
        refine ⟨_, rfl, _, rfl, .inr (.inl ⟨m, _, 1, .int M.os, rfl, rfl, SqT.of hMt5.top, rfl, _, rfl, ?_⟩)⟩
        refine ⟨p, sd, td, kd, L, M.os, S, Tl, kn, rfl, wd5.tab, sm, wd5.kno, wd.ks, wd.kt, wd.st, full_is all, own_is all nilT, hT5, fun _ H6 x k6 ex => ?_, fun no => absurd clo no⟩
        rw [made_is wd.ri all nilT] at ex
        have hn6 := Kp.ma hT5 k6 hn
        have k46 := (Kp.of hT4 s5).trans k6
        have wd6 := wd4.kp hT4 k46
        have hT6 := k6.tab
        refine ⟨_, rfl, rfl, _, rfl, ifDF rfl ?_⟩
        refine ⟨_, rfl, rfl, _, rfl, ifDT rfl ?_⟩
        refine ⟨_, rfl, _, rfl, ne_mach ex hn6 ⟨_, rfl, ifDF rfl ?_⟩⟩
        refine ⟨_, rfl, rfl, _, rfl, ifDT rfl ?_⟩
        obtain ⟨⟨dx6, ob6⟩, di6, dt6⟩ := id wd6.tab
        obtain ⟨mv6, ou6, rs6, hMt6⟩ := wd6.ma
        refine ⟨_, rfl, p, dx6, _, rfl, ob6, sF_no _ _ _ (by decide +kernel) (by decide +kernel) (by decide +kernel), _, rfl, .inr (.inl ⟨m, _, 1, .int M.os, rfl, rfl, SqT.of hMt6.top, rfl, _, rfl, ?_⟩)⟩
        refine ⟨p, sd, td, kd, L, M.os, S, Tl, kn, rfl, wd6.tab, sm, wd6.kno, wd.ks, wd.kt, wd.st, full_is all, own_is all nilT, hT6, clo, by rw [made_is wd.ri all nilT]; exact gMd, fi.tl, ?_⟩
        rw [made_is wd.ri all nilT, wrong_is wd.ri all]
        have lenMd : (madeM M L S Tl).rows.length = S.length := List.length_map ..
        rcases hwr : wrongM M (madeM M L S Tl) S Tl with _ | ⟨⟨j0, w0⟩, t0⟩
        case' none =>
          refine ⟨fun _ H8 k8 => ?_, fun j w t h => by cases h⟩
          have wd8 := wd6.kp hT6 k8
          obtain ⟨ts8, ea8, hl8⟩ := wd8.la
          obtain ⟨us8, eb8, hu8⟩ := wd8.lb
          refine ⟨_, rfl, _, rfl, _, rfl, _, rfl, m, n, a, b, M, madeM M L S Tl, ts8, us8, S, Tl, L, rfl, wd8.ma, g, Kp.ma hT6 k8 hn6, gMd, rfl, lenMd, ea8, hl8, eb8, hu8, fi, fun _ H7 s7 => ?_, fun j w t h => by (rw [hwr] at h; cases h)⟩
          refine ⟨.none, .none, .non, .non, rfl, rfl, _, rfl, ifDF rfl ?_⟩
          have k7 := (k46.trans k8).andS s7
        case' some =>
          refine ⟨fun h => (by cases h), fun j w t h H8 q a8 b8 k8 eq8 ea9 eb9 => ?_⟩
          have wd8 := wd6.kp hT6 k8
          obtain ⟨ts8, ea8, hl8⟩ := wd8.la
          obtain ⟨us8, eb8, hu8⟩ := wd8.lb
          refine ⟨_, rfl, _, rfl, _, rfl, _, rfl, m, n, a, b, M, madeM M L S Tl, ts8, us8, S, Tl, L, rfl, wd8.ma, g, Kp.ma hT6 k8 hn6, gMd, rfl, lenMd, ea8, hl8, eb8, hu8, fi, fun h => by (rw [hwr] at h; cases h), fun j2 w2 t2 h2 H7 q2 a7 b7 s7 eq7 ea7 eb7 => ?_⟩
          rw [hwr] at h2
          obtain ⟨⟨rfl, rfl⟩, rfl⟩ : (j = j2 ∧ w = w2) ∧ t = t2 := by
            have e := Option.some.inj (h.symm.trans h2)
            cases e
            exact ⟨⟨rfl, rfl⟩, rfl⟩
          refine ⟨.tuple [dLst w, dLst t], .tuple [dLst w, dLst t], .tup (SqT.of (s7 _ _ eq8)) (.cons (dp_l (s7 _ _ ea9)) (.cons (dp_l (s7 _ _ eb9)) .nil)), .tup (SqT.of eq7) (.cons (dp_l ea7) (.cons (dp_l eb7) .nil)), shaped_two w t, shaped_two w t, _, rfl, ?_⟩
          rw [PySem.SeqAt.eqv_refl _ (lay_two w t)]
          refine ifDF rfl ?_
          have k7 := (k46.trans k8).andS s7
          
      all_goals
        have wd7 := wd4.kp hT4 k7
        have hT7 := k7.tab
        obtain ⟨ts7, ea7, hl7⟩ := wd7.la
        obtain ⟨us7, eb7, hu7⟩ := wd7.lb
        obtain ⟨⟨dx7, ob7⟩, di7, dt7⟩ := id wd7.tab
        have s04 : Kp Pt H H4 := .of hT s24
        have k07 := s04.trans k7
        refine ⟨_, rfl, p, dx7, _, rfl, ob7, sF_no _ _ _ (by decide +kernel) (by decide +kernel) (by decide +kernel), _, rfl, ?_⟩
        refine ⟨p, sd, td, kd, L, S, Tl, kn, rfl, wd7.tab, sm, wd7.kno, wd.ks, wd.kt, wd.st, full_is all, fun w h => (new_not (by rw [← new_is wd.ri all]; exact h)).1, ?_, ?_⟩
        · intro no H8 s8
          rw [new_is wd.ri all] at no
          rcases or with ⟨_, rfl⟩ | ⟨w, u, so, _, _⟩
          · refine ⟨_, rfl, rfl, rfl, _, rfl, ifDF rfl ?_⟩
            refine ⟨_, rfl, rfl, _, rfl, ifDF rfl ?_⟩
            have wd8 := wd7.same s8
            obtain ⟨⟨dx8, ob8⟩, _, _⟩ := id wd8.tab
            refine ⟨_, rfl, p, dx8, _, rfl, ob8, sF_no _ _ _ (by decide +kernel) (by decide +kernel) (by decide +kernel), ?_⟩
            refine ⟨p, sd, td, L, S, Tl, rfl, wd8.tab, by have := sm.s100; omega, fun H9 q9 ts9 s9 eq9 l9 _ _ => ?_⟩
            have wd9 := wd8.same s9
            obtain ⟨⟨dx9, ob9⟩, _, _⟩ := id wd9.tab
            obtain ⟨ts0, ea9, hl9⟩ := wd9.la
            refine ⟨_, rfl, eq_lls eq9 l9 ea9 hl9 ⟨_, rfl, ?_⟩⟩
            rw [decide_eq_true rfl]
            refine ifDT rfl ?_
            refine ⟨_, rfl, p, dx9, _, rfl, ob9, sF_no _ _ _ (by decide +kernel) (by decide +kernel) (by decide +kernel), ?_⟩
            refine ⟨p, sd, td, L, S, Tl, rfl, wd9.tab, by have := sm.t100; omega, fun H10 q10 ts10 s10 eq10 l10 _ _ => ?_⟩
            have wd10 := wd9.same s10
            obtain ⟨us0, eb10, hu10⟩ := wd10.lb
            refine ⟨_, rfl, eq_lls eq10 l10 eb10 hu10 ?_⟩
            rw [decide_eq_true rfl]
            have k10 := k07.andS ((s8.trans s9).trans s10)
            exact fin H10 S (fun b o n1 _ _ e => k10.keep b o n1 e) k10.tab wd10 (.inl rfl)
          · rw [no] at so
            cases so
        · intro w0 so0 H8 tab8 bt8
          rw [new_is wd.ri all] at so0
          rcases or with ⟨no, _⟩ | ⟨w, u, so, rfl, eu⟩
          · rw [no] at so0
            cases so0
          obtain rfl : w = w0 := by
            rw [so] at so0
            exact Option.some.inj so0
          have nn := new_not so
          have Sne : S ≠ [] := fun z => by rw [z] at S1; simp at S1
          have ne : ∀ {x : Addr} {xs : List V}, H7 x = some (.lst xs) → x ≠ sd := fun q z => by
            rw [z, di7] at q
            cases q
          have net : ∀ {x : Addr} {xs : List V}, H7 x = some (.tup xs) → x ≠ sd := fun q z => by
            rw [z, di7] at q
            cases q
          have ea8 := bt8 _ _ ea7 (ne ea7)
          have eb8 := bt8 _ _ eb7 (ne eb7)
          have hl8 : LL H8 ts7 S := ⟨hl7.1, fun i x w p q => bt8 _ _ (hl7.2 i x w p q) (ne (hl7.2 i x w p q))⟩
          have hu8 : LL H8 us7 Tl := ⟨hu7.1, fun i x w p q => bt8 _ _ (hu7.2 i x w p q) (ne (hu7.2 i x w p q))⟩
          have eu7 := Kp.lst hT4 k7 eu
          have eu8 := bt8 _ _ eu7 (ne eu7)
          have hm8 : MA H8 m M := by
            obtain ⟨mv, ou, rs, h⟩ := wd7.ma
            exact ⟨mv, ou, rs, bt8 _ _ h.top (net h.top), bt8 _ _ h.mv (net h.mv), bt8 _ _ h.ou (net h.ou), h.len, fun i r w p q => bt8 _ _ (h.row i r w p q) (net (h.row i r w p q))⟩
          have hk8 := bt8 _ _ wd7.kno wd.ks
          have lt7 := hl8.1
          refine ⟨_, rfl, rfl, rfl, _, rfl, ifDF rfl ?_⟩
          refine ⟨_, rfl, rfl, _, rfl, ifDT rfl ?_⟩
          refine ⟨_, rfl, .inl ⟨rfl, _, SqL.of ea8⟩, _, rfl, a, _, _, rfl, rfl, ea8, ?_, ?_⟩
          · rw [List.length_map]
            exact Nat.lt_of_le_of_lt (by omega : ts7.length ≤ 100) (by decide)
          have la9 := LA.push ea8 hl8 Sne eu8
          have ka : ∀ {x : Addr} {o : HO}, H8 x = some o → (∀ xs, o ≠ .lst xs) → (upd H8 a (.lst (ts7.map V.ref ++ [V.ref u]))) x = some o := fun {x o} q n => (upd_ne fun z => by
            rw [z, ea8] at q
            exact n _ (Option.some.inj q).symm).trans q
          have lb9 : LA (upd H8 a (.lst (ts7.map V.ref ++ [V.ref u]))) b Tl := ⟨us7, (upd_ne (Ne.symm wd.ab)).trans eb8, hu8.1, fun i x w p q => (upd_ne (LA.ne ea8 hl8 Sne (hu8.2 i x w p q))).trans (hu8.2 i x w p q)⟩
          have hk9 := ka hk8 fun xs z => by cases z
          have hm9 : MA (upd H8 a (.lst (ts7.map V.ref ++ [V.ref u]))) m M := by
            obtain ⟨mv, ou, rs, h⟩ := hm8
            exact ⟨mv, ou, rs, ka h.top (fun xs z => by cases z), ka h.mv (fun xs z => by cases z), ka h.ou (fun xs z => by cases z), h.len, fun i r w p q => ka (h.row i r w p q) (fun xs z => by cases z)⟩
          have tab9 : TabAt A.a_Table (upd H8 a (.lst (ts7.map V.ref ++ [V.ref u]))) p sd td (L : Int) (S ++ [w]) Tl := ⟨let ⟨dx, e⟩ := tab8.ob; ⟨dx, ka e (fun xs z => by cases z)⟩, ka tab8.st (fun xs z => by cases z), ka tab8.tl (fun xs z => by cases z)⟩
          have hT9 : GxR.TabG (upd H8 a (.lst (ts7.map V.ref ++ [V.ref u]))) Pt := by
            obtain ⟨ps, q, r⟩ := hT7
            exact ⟨ps, ka (bt8 _ _ q (fun z => by rw [z, di7] at q; cases q)) (fun xs z => by cases z), r⟩
          have fi9 : Fine M L (S ++ [w]) Tl := by
            have rl := rows_lt fi nn.2.1
            have wl : w.length ≤ S.length + 1 := by
              rcases List.mem_append.mp nn.2.1 with z | z
              · exact absurd z nn.1
              · obtain ⟨u, hu, hw⟩ := List.mem_flatMap.mp (List.mem_filter.mp z).1
                obtain ⟨b, _, rfl⟩ := List.mem_map.mp hw
                have := wS u hu
                rw [List.length_append]
                show u.length + 1 ≤ S.length + 1
                omega
            refine ⟨⟨sm.l1, sm.l4, by rw [List.length_append]; show S.length + 1 ≤ 100; omega, fun x hx => ?_, sm.t100, sm.ts⟩, fi.ls, fun x hx => ?_, fi.tl⟩
            · rcases List.mem_append.mp hx with z | z
              · exact sm.ss x z
              · rw [List.mem_singleton.mp z]
                omega
            · rcases List.mem_append.mp hx with z | z
              · exact fi.sl x z
              · rw [List.mem_singleton.mp z]
                exact rl
          have kp9 : Keep3 Pt sd a H (upd H8 a (.lst (ts7.map V.ref ++ [V.ref u]))) := fun x o n1 n2 n3 e => by
            rw [upd_ne n3]
            exact bt8 _ _ (k07.keep x o n1 e) n2
          have wd9 : Wd A (upd H8 a (.lst (ts7.map V.ref ++ [V.ref u]))) p sd td m a b kd M L (S ++ [w]) Tl kn := ⟨tab9, hm9, la9, lb9, hk9, wd.ri, fi9, wd.ks, wd.kt, wd.st, g, wd.ab⟩
          generalize upd H8 a (.lst (ts7.map V.ref ++ [V.ref u])) = H9 at *
          obtain ⟨⟨dx9, ob9⟩, _, _⟩ := id wd9.tab
          refine ⟨_, rfl, p, dx9, _, rfl, ob9, sF_no _ _ _ (by decide +kernel) (by decide +kernel) (by decide +kernel), ?_⟩
          refine ⟨p, sd, td, L, S ++ [w], Tl, rfl, wd9.tab, by rw [List.length_append]; show S.length + 1 ≤ 2000; omega, fun H10 q10 ts10 s10 eq10 l10 _ _ => ?_⟩
          have wd10 := wd9.same s10
          obtain ⟨⟨dx10, ob10⟩, _, _⟩ := id wd10.tab
          obtain ⟨ts0, ea10, hl10⟩ := wd10.la
          refine ⟨_, rfl, eq_lls eq10 l10 ea10 hl10 ⟨_, rfl, ?_⟩⟩
          rw [decide_eq_true rfl]
          refine ifDT rfl ?_
          refine ⟨_, rfl, p, dx10, _, rfl, ob10, sF_no _ _ _ (by decide +kernel) (by decide +kernel) (by decide +kernel), ?_⟩
          refine ⟨p, sd, td, L, S ++ [w], Tl, rfl, wd10.tab, by have := sm.t100; omega, fun H11 q11 ts11 s11 eq11 l11 _ _ => ?_⟩
          have wd11 := wd10.same s11
          obtain ⟨us0, eb11, hu11⟩ := wd11.lb
          refine ⟨_, rfl, eq_lls eq11 l11 eb11 hu11 ?_⟩
          rw [decide_eq_true rfl]
          have s911 := s10.trans s11
          exact fin H11 (S ++ [w]) (fun b o n1 n2 n3 e => s911 _ _ (kp9 b o n1 n2 n3 e)) (let ⟨ps, q, r⟩ := hT9; ⟨ps, s911 _ _ q, r⟩) wd11 (.inr ⟨w, rfl, so⟩)
end
end K11

set_option Elab.async false
set_option linter.all false
set_option maxRecDepth 100000
set_option maxHeartbeats 4000000
namespace K11
open PySem PySem.Spec PyProof.Rows L2 Mz
theorem nodup_map {α β γ : Type} {f : α → β} {g : α → γ} {S : List α} (nd : (S.map g).Nodup) (h : ∀ x ∈ S, ∀ y ∈ S, f x = f y → g x = g y) : (S.map f).Nodup := by
  unfold List.Nodup at *
  rw [List.pairwise_map] at *
  exact nd.imp_of_mem fun {x y} hx hy n e => n (h x hx y hy e)
theorem run_app (M : Mach) (s : Int) (w u : List Int) : M.run s (w ++ u) = M.run (M.run s w) u := by
  unfold Mach.run
  rw [List.foldl_append]
theorem few_states {M : Mach} {L : Nat} {S T : List (List Int)} (g : Good M) (fi : Fine M L S T) (nd : (S.map (rowM M T)).Nodup) : S.length ≤ M.rows.length := by
  have h := nodup_few M.rows.length (S.map fun w => (M.run 0 w).toNat) ?_ ?_
  · rw [List.length_map] at h
    exact h
  · refine nodup_map nd fun x hx y hy e => ?_
    have stx := g.runs g.st0 (w := x) (by rw [fi.ls]; exact fi.sl x hx)
    have sty := g.runs g.st0 (w := y) (by rw [fi.ls]; exact fi.sl y hy)
    have e2 : M.run 0 x = M.run 0 y := by
      have := stx.1
      have := sty.1
      have e : (M.run 0 x).toNat = (M.run 0 y).toNat := e
      omega
    unfold rowM ansM
    refine List.map_congr_left fun t _ => ?_
    rw [run_app, run_app, e2]
  · intro z hz
    obtain ⟨w, hw, rfl⟩ := List.mem_map.mp hz
    have st := g.runs g.st0 (w := w) (by rw [fi.ls]; exact fi.sl w hw)
    have := st.1
    have := st.2
    omega
theorem nd_more {M : Mach} {S T : List (List Int)} {c : List Int} (nd : (S.map (rowM M T)).Nodup) : (S.map (rowM M (T ++ [c]))).Nodup := by
  refine nodup_map nd fun x _ y _ e => ?_
  unfold rowM at *
  rw [List.map_append, List.map_append] at e
  exact List.append_inj_left' e rfl
theorem nd_push {M : Mach} {S T : List (List Int)} {w : List Int} (nd : (S.map (rowM M T)).Nodup) (n : rowM M T w ∉ S.map (rowM M T)) : ((S ++ [w]).map (rowM M T)).Nodup := by
  rw [List.map_append, List.nodup_append]
  refine ⟨nd, by simp, fun a ha b hb => ?_⟩
  rw [List.mem_singleton.mp hb]
  exact fun z => n (z ▸ ha)
theorem words_len {L : Nat} {S T : List (List Int)} (l3 : L ≤ 3) (s5 : S.length ≤ 5) (t5 : T.length ≤ 5) : (wordsOf L S T).length ≤ 199 := by
  have h1 : (rowsOf L S).length ≤ 20 := by
    unfold rowsOf
    have h1 := List.length_filter_le (fun w => decide (w ∉ S)) (S.flatMap (moreW L))
    have h2 : (S.flatMap (moreW L)).length ≤ 15 := by
      rw [flat_len]
      exact Nat.le_trans (Nat.mul_le_mul s5 l3) (by decide)
    rw [List.length_append]
    omega
  have h2 : ∀ rs : List (List Int), (rs.flatMap fun r => T.map fun t => r ++ t).length ≤ rs.length * 5 := fun rs => by
    induction rs with
    | nil => exact Nat.le_refl _
    | cons r rs ih =>
      rw [List.flatMap_cons, List.length_append, List.length_map, List.length_cons]
      omega
  have := h2 (rowsOf L S)
  unfold wordsOf
  omega
theorem in_ll {K : PySem.W.Frag} {H : Hp} {p r : Addr} {as : List Addr} {D : List (List Int)} {w : List Int} {Q : VK} (hr : H r = some (.lst (w.map V.int))) (hp : H p = some (.lst (as.map V.ref))) (h : LL H as D) (q : Q (.bl (decide (w ∈ D))) H) : rInD K (.ref r) (.ref p) H Q :=
  ⟨dLst w, D.map dLst, dp_l hr, dp_ll hp h, shaped_l w, shaped_ll D, by rw [any_ll]; exact q⟩
structure Bx where
  p : Addr
  sd : Addr
  td : Addr
  p2 : Addr
  sd2 : Addr
  td2 : Addr
  m : Addr
  a : Addr
  b : Addr
  kd : Addr
  sc : Addr
  M : Mach
  L : Nat
  ns : List Int
structure Ir (K : PySem.W.Frag) (A : Ads) (Pt : Addr) (H : Hp) (x : Bx) (S T : List (List Int)) (kn : List (List Int × Int)) : Prop where
  wd : Wd A H x.p x.sd x.td x.m x.a x.b x.kd x.M x.L S T kn
  tab : GxR.TabG H Pt
  oth : TabAt A.a_Table H x.p2 x.sd2 x.td2 (x.L : Int) [[]] [[]]
  scr : SqL K H x.sc (x.ns.map V.int)
  nil : [] ∈ T
  s1 : 1 ≤ S.length
  nd : (S.map (rowM x.M T)).Nodup
  wl : ∀ w ∈ S, w.length ≤ S.length
  d1 : x.sd2 ≠ x.sd
  d2 : x.sd2 ≠ x.td
  d3 : x.sd2 ≠ x.kd
  d4 : x.td2 ≠ x.sd
  d5 : x.td2 ≠ x.td
  d6 : x.td2 ≠ x.kd
  n5 : x.M.rows.length ≤ 5
  l3 : x.L ≤ 3
theorem Ir.same {K : PySem.W.Frag} {A : Ads} {Pt : Addr} {H H' : Hp} {x : Bx} {S T : List (List Int)} {kn : List (List Int × Int)} (h : Ir K A Pt H x S T kn) (s : Same H H') : Ir K A Pt H' x S T kn :=
  { h with wd := h.wd.same s, tab := let ⟨ps, q, r⟩ := h.tab; ⟨ps, s _ _ q, r⟩, oth := h.oth.same s, scr := s.seq h.scr }
theorem Ir.move {K : PySem.W.Frag} {A : Ads} {Pt : Addr} {H H' : Hp} {x : Bx} {S T S' T' : List (List Int)} {kn kn' : List (List Int × Int)} (h : Ir K A Pt H x S T kn)
    (k : ∀ b o, H b = some o → (b = x.kd ∨ b = x.sd ∨ b = x.td ∨ b = x.a ∨ b = x.b ∨ b = Pt) ∨ H' b = some o) (wd : Wd A H' x.p x.sd x.td x.m x.a x.b x.kd x.M x.L S' T' kn') (tab : GxR.TabG H' Pt)
    (nil : [] ∈ T') (s1 : 1 ≤ S'.length) (nd : (S'.map (rowM x.M T')).Nodup) (wl : ∀ w ∈ S', w.length ≤ S'.length) : Ir K A Pt H' x S' T' kn' := by
  obtain ⟨ts, ea, hl⟩ := id h.wd.la
  obtain ⟨us, eb, hu⟩ := id h.wd.lb
  obtain ⟨ps, et, _⟩ := id h.tab
  have Sne : S ≠ [] := fun z => by
    have := h.s1
    rw [z] at this
    simp at this
  have Tne : T ≠ [] := fun z => by
    have := h.nil
    rw [z] at this
    cases this
  have ck : ∀ {c : Addr} {o u : HO}, H c = some o → H x.kd = some u → o ≠ u → c ≠ x.kd := fun e e2 n z => by
    rw [z, e2] at e
    exact n (Option.some.inj e).symm
  have ob : ∀ {c : Addr} {C dx : Addr} {fs}, H c = some (.ins C dx fs) → H' c = some (.ins C dx fs) := fun {c C dx fs} e => (k c _ e).resolve_left fun z => by
    rcases z with z | z | z | z | z | z
    · rw [z, h.wd.kno] at e
      cases e
    · rw [z, h.wd.tab.st] at e
      cases e
    · rw [z, h.wd.tab.tl] at e
      cases e
    · rw [z, ea] at e
      cases e
    · rw [z, eb] at e
      cases e
    · rw [z, et] at e
      cases e
  have dt : ∀ {c : Addr} {kvs : List (List L2.Key × V)}, c ≠ x.kd → c ≠ x.sd → c ≠ x.td → H c = some (.dT kvs) → H' c = some (.dT kvs) := fun {c kvs} n1 n2 n3 e => (k c _ e).resolve_left fun z => by
    rcases z with z | z | z | z | z | z
    · exact n1 z
    · exact n2 z
    · exact n3 z
    · rw [z, ea] at e
      cases e
    · rw [z, eb] at e
      cases e
    · rw [z, et] at e
      cases e
  refine { wd := wd, tab := tab, oth := ⟨let ⟨dx, e⟩ := h.oth.ob; ⟨dx, ob e⟩, dt h.d3 h.d1 h.d2 h.oth.st, dt h.d6 h.d4 h.d5 h.oth.tl⟩, scr := ?_, nil := nil, s1 := s1, nd := nd, wl := wl, d1 := h.d1, d2 := h.d2, d3 := h.d3, d4 := h.d4, d5 := h.d5, d6 := h.d6, n5 := h.n5, l3 := h.l3 }
  rcases h.scr with (e | ⟨o, e⟩) | e
  · refine .inl (.inl ((k _ _ e).resolve_left fun z => ?_))
    rcases z with z | z | z | z | z | z
    · rw [z, h.wd.kno] at e
      cases e
    · rw [z, h.wd.tab.st] at e
      cases e
    · rw [z, h.wd.tab.tl] at e
      cases e
    · exact LA.ne ea hl Sne e z
    · exact LA.ne eb hu Tne e z
    · rw [z, et] at e
      cases e
  · refine .inl (.inr ⟨o, (k _ _ e).resolve_left fun z => ?_⟩)
    rcases z with z | z | z | z | z | z
    · rw [z, h.wd.kno] at e
      cases e
    · rw [z, h.wd.tab.st] at e
      cases e
    · rw [z, h.wd.tab.tl] at e
      cases e
    · rw [z, ea] at e
      cases e
    · rw [z, eb] at e
      cases e
    · rw [z, et] at e
      cases e
  · exact .inr e
/-- an `if` or a `for` whose ways are proved once: from I, and what is behind it from J -/
def tWith {X : Type} (I J : X → L2.St → Hp → Prop) : TS := fun D σ H => ∃ x, I x σ H ∧ ∀ σ' H', J x σ' H' → D.nx σ' H'
structure Px where
  x : Bx
  T : List (List Int)
  k : V
  f : Addr
  n : Nat
def I1 (K : PySem.W.Frag) (A : Ads) (Pt : Addr) (y : Px) (σ : L2.St) (H : Hp) : Prop := ∃ (v10 v11 v12 v13 v14 v15 v16 : Option V) (S : List (List Int)) (kn : List (List Int × Int)),
  σ = [some (.ref y.x.sc), some (.ref y.f), some (.int (y.x.L : Int)), some (.ref y.x.m), some (.ref y.x.p), some (.ref y.x.p2), some (.ref y.x.a), some (.ref y.x.b), some (.ref y.x.kd), some y.k, v10, v11, v12, v13, v14, v15, v16] ∧
  Ir K A Pt H y.x S y.T kn ∧ y.T.length ≤ 5 ∧ kn.length ≤ y.n ∧ y.n ≤ 20000
def J1 (K : PySem.W.Frag) (A : Ads) (Pt : Addr) (y : Px) (σ : L2.St) (H : Hp) : Prop := ∃ (v10 v11 v12 v13 v14 v15 v16 : Option V) (S : List (List Int)) (kn : List (List Int × Int)),
  σ = [some (.ref y.x.sc), some (.ref y.f), some (.int (y.x.L : Int)), some (.ref y.x.m), some (.ref y.x.p), some (.ref y.x.p2), some (.ref y.x.a), some (.ref y.x.b), some (.ref y.x.kd), some y.k, v10, v11, v12, v13, v14, v15, v16] ∧
  Ir K A Pt H y.x S y.T kn ∧ kn.length ≤ y.n + 1600
def spLaw (K : PySem.W.Frag) (Pt : Addr) : Sp := fun vs H Q _ => ∃ (a : Addr) (ns : List Int), vs = [.ref a] ∧ SqL K H a (ns.map V.int) ∧ ns.length ≤ 63 ∧ GxR.TabG H Pt ∧ ∀ H', Q (.bl true) H'
section
variable {P : Program} {w : World} {K : PySem.W.Frag} {mg : Str → Option Value} {base : Heap} {A : Ads} {c Pt : Addr}
theorem ok_law (T : Txt K mg A) (TB : GxR.TabB base mg c Pt) (hc : A.d_Table_machine.code = .ref c) : FnOk P w K mg base CX0 8 A.a_law A.d_law ["script"] (spLaw K Pt) := by
  have G_law_cell : FnOk P w K mg base CX0 1 A.a_law_cell A.d_law_cell ["script", "k"] (spCell K) := ok_cell T
  have G_law_numbers : FnOk P w K mg base CX0 1 A.a_law_numbers A.d_law_numbers ["cell", "k", "many"] spNumbers := ok_numbers T
  have G_law_machine : FnOk P w K mg base CX0 1 A.a_law_machine A.d_law_machine ["numbers", "letters", "outs", "states"] (spLMachine K) := ok_lmachine T
  have G_law_filled : FnOk P w K mg base CX0 3 A.a_law_filled A.d_law_filled ["table", "machine", "states", "columns", "known"] (spFilled A) := ok_filled T
  have G_law_extended : FnOk P w K mg base CX0 7 A.a_law_extended A.d_law_extended ["table", "machine", "states", "columns", "known"] (spExtended A Pt) := ok_extended T TB hc
  have G_law_alike : FnOk P w K mg base CX0 2 A.a_law_alike A.d_law_alike ["table", "column"] (spLAlike A) := ok_lalike T
  have G_Table_init : FnOk P w K mg base CX0 1 A.a_Table_init A.d_Table_init ["self", "letters"] (spInit A) := ok_init T
  have G_Table_add_column : FnOk P w K mg base (L2N.CX P w) 1 A.a_Table_add_column A.d_Table_add_column ["self", "word"] (spAddColumn A) := ok_add_column T
  have G_Table_state_words : FnOk P w K mg base CX0 1 A.a_Table_state_words A.d_Table_state_words ["self"] (spStates A) := ok_states T
  have G_Table_columns : FnOk P w K mg base CX0 1 A.a_Table_columns A.d_Table_columns ["self"] (spColumns A) := ok_columns T
  refine T.F_law.ok sc_law (fun vs H Q E h => ?_) (fun cdv Ar outer s H vs Q E hr h => ?_)
  · obtain ⟨_, _, rfl, _⟩ := h
    rfl
  · obtain ⟨sc, ns, rfl, hS, l63, hT, fin⟩ := h
    have hr_law_cell : Room 1 _ := hr.mono (by decide)
    have hr_law_numbers : Room 1 _ := hr.mono (by decide)
    have hr_law_machine : Room 1 _ := hr.mono (by decide)
    have hr_law_filled : Room 3 _ := hr.mono (by decide)
    have hr_law_extended : Room 7 _ := hr
    have hr_law_alike : Room 2 _ := hr.mono (by decide)
    have hr_Table_init : Room 2 _ := hr.mono (by decide)
    have hr_Table_add_column : Room 1 _ := hr.mono (by decide)
    have hr_Table_state_words : Room 1 _ := hr.mono (by decide)
    have hr_Table_columns : Room 1 _ := hr.mono (by decide)
    refine ⟨_, (pss_cons (ps_set (i := 1) sc_law.nd rfl (Or.inl rfl) (pe_call G_law_numbers hr_law_numbers (by rfl) T.g_law_numbers T.F_law_numbers.kp T.b_law_numbers .nil pass0 (pa_cons (pe_call G_law_cell hr_law_cell (by rfl) T.g_law_cell T.F_law_cell.kp T.b_law_cell .nil pass0 (pa_cons (pv 0) (pa_cons pe_int pa_nil))) (pa_cons pe_int (pa_cons pe_int pa_nil)))))
      (pss_cons (ps_set (i := 2) sc_law.nd rfl (Or.inr rfl) (pe_op op_add pe_int (pe_op op_mod (pe_callTy call_int1 (by rfl) T.n_int (by decide +kernel) (pa_cons (pe_ix (r := rIx K) ix_seq (pv 1) pe_int (fun _ _ => rfl)) pa_nil)) pe_int)))
      (pss_cons (ps_set (i := 3) sc_law.nd rfl (Or.inl rfl) (pe_call G_law_machine hr_law_machine (by rfl) T.g_law_machine T.F_law_machine.kp T.b_law_machine .nil pass0 (pa_cons (pv 1) (pa_cons (pv 2) (pa_cons (pe_op op_add pe_int (pe_op op_mod (pe_callTy call_int1 (by rfl) T.n_int (by decide +kernel) (pa_cons (pe_ix (r := rIx K) ix_seq (pv 1) pe_int (fun _ _ => rfl)) pa_nil)) pe_int)) (pa_cons (pe_op op_add pe_int (pe_op op_mod (pe_callTy call_int1 (by rfl) T.n_int (by decide +kernel) (pa_cons (pe_ix (r := rIx K) ix_seq (pv 1) pe_int (fun _ _ => rfl)) pa_nil)) pe_int)) pa_nil))))))
      (pss_cons (ps_set (i := 4) sc_law.nd rfl (Or.inl rfl) (pe_make T.mk_Table G_Table_init hr_Table_init (by rfl) T.g_Table T.b_Table_init .nil pass0 (pa_cons (pv 2) pa_nil)))
      (pss_cons (ps_set (i := 5) sc_law.nd rfl (Or.inl rfl) (pe_make T.mk_Table G_Table_init hr_Table_init (by rfl) T.g_Table T.b_Table_init .nil pass0 (pa_cons (pv 2) pa_nil)))
      (pss_cons (ps_set (i := 6) sc_law.nd rfl (Or.inl rfl) (pe_lst (pa_cons (pe_lst pa_nil) pa_nil)))
      (pss_cons (ps_set (i := 7) sc_law.nd rfl (Or.inl rfl) (pe_lst (pa_cons (pe_lst pa_nil) pa_nil)))
      (pss_cons (ps_set (i := 8) sc_law.nd rfl (Or.inl rfl) pe_dnewT)
      (pss_cons (ps_for PassesOwn.never rfl (pi_range2 (by rfl) T.n_range (pa_cons pe_int (pa_cons (pe_callB (call_max2 rfl) (by rfl) T.n_max (by decide +kernel) (pa_cons pe_int (pa_cons (pe_callB (call_min2 rfl) (by rfl) T.n_min (by decide +kernel) (pa_cons (pe_callB call_len_seq (by rfl) T.n_len PySem.boot_len (pa_cons (pv 0) pa_nil)) (pa_cons pe_int pa_nil))) pa_nil))) pa_nil))) (pg_name (i := 9) sc_law.nd rfl (Or.inl rfl))
        (pss_cons (ps_weak (t' := tWith (I1 K A Pt) (J1 K A Pt)) (ps_for PassesOwn.never rfl (pi_range1 (by rfl) T.n_range (pa_cons pe_int pa_nil)) (pg_name (i := 10) sc_law.nd rfl (Or.inl rfl))
            (pss_cons (ps_if (pt_not (pt_val (pe_call G_law_filled hr_law_filled (by rfl) T.g_law_filled T.F_law_filled.kp T.b_law_filled .nil pass0 (pa_cons (pv 4) (pa_cons (pv 3) (pa_cons (pv 6) (pa_cons (pv 7) (pa_cons (pv 8) pa_nil)))))))) (pss_one (ps_ret pe_bl)) pss_nil)
              (pss_cons (ps_set (i := 11) sc_law.nd rfl (Or.inl rfl) (pe_callB call_len_seq (by rfl) T.n_len PySem.boot_len (pa_cons (pv 6) pa_nil)))
              (pss_cons (ps_if (pt_not (pt_val (pe_call G_law_extended hr_law_extended (by rfl) T.g_law_extended T.F_law_extended.kp T.b_law_extended .nil pass0 (pa_cons (pv 4) (pa_cons (pv 3) (pa_cons (pv 6) (pa_cons (pv 7) (pa_cons (pv 8) pa_nil)))))))) (pss_one (ps_ret pe_bl)) pss_nil)
              (pss_one (ps_if (pt_cmpR op_eq (pe_callB call_len_seq (by rfl) T.n_len PySem.boot_len (pa_cons (pv 6) pa_nil)) (pv 11) (nomark _)) (pss_one ps_break) pss_nil)))))) ?wk)
          (pss_cons (ps_set (i := 12) sc_law.nd rfl (Or.inr rfl) (pe_call G_law_numbers hr_law_numbers (by rfl) T.g_law_numbers T.F_law_numbers.kp T.b_law_numbers .nil pass0 (pa_cons (pe_call G_law_cell hr_law_cell (by rfl) T.g_law_cell T.F_law_cell.kp T.b_law_cell .nil pass0 (pa_cons (pv 0) (pa_cons (pv 9) pa_nil))) (pa_cons (pv 9) (pa_cons pe_int pa_nil)))))
          (pss_cons (ps_setLc (i := 13) (own := [("j", 16)]) (g := (gName 16)) (tt := tYes) rfl sc_law.nd rfl rfl (sw_true rfl rfl rfl (by decide +kernel)) (pi_range1 (by rfl) T.n_range (pa_cons (pe_op op_add pe_int (pe_op op_mod (pe_callTy call_int1 (by rfl) T.n_int (by decide +kernel) (pa_cons (pe_ix (r := rIx K) ix_seq (pv 12) pe_int (fun _ _ => rfl)) pa_nil)) pe_int)) pa_nil)) (blkOk_by (N := ["script", "first", "letters", "machine", "table", "other", "states", "columns", "known", "k", "turn", "before", "numbers", "column", "handed", "told", "j"]) (sc := defScope s_law) (by decide +kernel)) (fun _ _ _ _ _ => (pg_name (i := 16) sc_law.nd rfl (Or.inl rfl))) (fun _ _ _ _ _ => pts_nil) (fun _ _ _ _ _ => (pe_op op_mod (pe_callTy (T := "int") call_int1 (by rfl) T.n_int (by decide +kernel) (pa_cons (pe_ix (r := rIx K) ix_seq (pv 12) (pv 16) (fun _ _ => rfl)) pa_nil)) (pv 2))))
          (pss_cons (ps_set (i := 14) sc_law.nd rfl (Or.inl rfl) (pe_callTy call_list_of (by rfl) T.n_list (by decide +kernel) (pa_cons (pv 13) pa_nil)))
          (pss_cons (ps_if (pt_cmpR (op_inD (hu65 hr)) (pv 13) (pv 7) rfl) (pss_one (ps_if (pt_not (pt_val (pe_call G_law_alike hr_law_alike (by rfl) T.g_law_alike T.F_law_alike.kp T.b_law_alike .nil pass0 (pa_cons (pv 4) (pa_cons (pv 14) pa_nil))))) (pss_one (ps_ret pe_bl)) pss_nil)) (pss_cons (ps_expr (pe_meth (pv 4) T.cl_Table T.m_Table_add_column G_Table_add_column hr_Table_add_column T.b_Table_add_column .nil passN (pa_cons (pv 14) pa_nil)))
              (pss_cons (ps_expr (pe_bm PySem.F.plainAttrs_list PySem.F.slot_list_append PySem.F.type_list_append mt_append (pv 7) (pa_cons (pv 13) pa_nil)))
              (pss_one (ps_expr (pe_bm PySem.F.plainAttrs_list PySem.F.slot_list_append PySem.F.type_list_append mt_append (pv 14) (pa_cons pe_int pa_nil)))))))
          (pss_one (ps_if (PW.pt (pw_or (pt_cmpR (op_neD hr.units) (pe_meth0 (pv 4) T.cl_Table T.m_Table_columns G_Table_columns hr_Table_columns T.b_Table_columns .nil pass0) (pv 7) (nomark _)) (pw_or1 (pt_not (pt_val (pe_call G_law_alike hr_law_alike (by rfl) T.g_law_alike T.F_law_alike.kp T.b_law_alike .nil pass0 (pa_cons (pv 4) (pa_cons (pe_lst pa_nil) pa_nil)))))))) (pss_one (ps_ret pe_bl)) pss_nil))))))))
      (pss_cons (ps_set (i := 15) sc_law.nd rfl (Or.inl rfl) (pe_meth0 (pv 4) T.cl_Table T.m_Table_state_words G_Table_state_words hr_Table_state_words T.b_Table_state_words .nil pass0))
      (pss_cons (ps_expr (pe_bm PySem.F.plainAttrs_list PySem.F.slot_list_append PySem.F.type_list_append mt_append (pv 15) (pa_cons (pe_lst (pa_cons pe_int pa_nil)) pa_nil)))
      (pss_one (ps_ret (pe_and (pe_cmpR (op_eqD hr.units) (pe_meth0 (pv 4) T.cl_Table T.m_Table_state_words G_Table_state_words hr_Table_state_words T.b_Table_state_words .nil pass0) (pv 6) (nomark _)) (pe_and (pe_cmpR (op_eqD hr.units) (pe_meth0 (pv 5) T.cl_Table T.m_Table_state_words G_Table_state_words hr_Table_state_words T.b_Table_state_words .nil pass0) (pe_lst (pa_cons (pe_lst pa_nil) pa_nil)) (nomark _)) (pe_one (pe_cmpR (op_eqD hr.units) (pe_meth0 (pv 5) T.cl_Table T.m_Table_columns G_Table_columns hr_Table_columns T.b_Table_columns .nil pass0) (pe_lst (pa_cons (pe_lst pa_nil) pa_nil)) (nomark _)))))))))))))))))), ?_⟩
    case wk =>
      rintro D1 σ H1 ⟨⟨x, Tl, k, f, n⟩, ⟨v10, v11, v12, v13, v14, v15, v16, S, kn, rfl, ir, t5, kl, nl⟩, nx⟩
      have kl : kn.length ≤ n := kl
      have nl : n ≤ 20000 := nl
      have t5 : Tl.length ≤ 5 := t5
      have ir : Ir K A Pt H1 x S Tl kn := ir
      refine ⟨8, rfl, by decide, by decide, for_range (n := 8) (fun i σ H' => ∃ (v10 v11 v12 v13 v14 v15 v16 : Option V) (S : List (List Int)) (kn : List (List Int × Int)), σ = [some (.ref x.sc), some (.ref f), some (.int (x.L : Int)), some (.ref x.m), some (.ref x.p), some (.ref x.p2), some (.ref x.a), some (.ref x.b), some (.ref x.kd), some k, v10, v11, v12, v13, v14, v15, v16] ∧ Ir K A Pt H' x S Tl kn ∧ kn.length ≤ n + 200 * i)
        ⟨_, _, _, _, _, _, _, S, kn, rfl, ir, by omega⟩ ?_ ?_⟩
      · rintro i σ H2 hi ⟨v10, v11, v12, v13, v14, v15, v16, S, kn, rfl, ir, kl⟩
        have few := few_states ir.wd.go ir.wd.fi ir.nd
        have n5 := ir.n5
        refine ⟨_, rfl, _, rfl, _, rfl, _, rfl, _, rfl, ?_⟩
        refine ⟨x.p, x.sd, x.td, x.m, x.a, x.b, x.kd, x.M, x.L, S, Tl, kn, rfl, ir.wd, words_len ir.l3 (by omega) t5, by omega, fun H3 kn3 bt3 wd3 all3 kl3 => ?_⟩
        have ir3 : Ir K A Pt H3 x S Tl kn3 := ir.move (fun b o e => by
          by_cases z : b = x.kd
          · exact .inl (.inl z)
          · exact .inr (bt3 _ _ e z)) wd3 (let ⟨ps, q, r⟩ := ir.tab; ⟨ps, bt3 _ _ q (fun z => by rw [z, ir.wd.kno] at q; cases q), r⟩) ir.nil ir.s1 ir.nd ir.wl
        obtain ⟨ts3, ea3, hl3⟩ := id ir3.wd.la
        have lt3 := hl3.1
        refine ⟨_, rfl, ifDF rfl ?_⟩
        refine ⟨_, rfl, x.a, _, rfl, .inl (SqL.of ea3), ?_⟩
        rw [List.length_map, lt3]
        refine ⟨_, rfl, _, rfl, _, rfl, _, rfl, _, rfl, ?_⟩
        refine ⟨x.p, x.sd, x.td, x.m, x.a, x.b, x.kd, x.M, x.L, S, Tl, kn3, rfl, ir3.wd, ir3.tab, all3, ir3.nil, ir3.s1, by omega, ir3.wl, fun H4 S4 kp4 tab4 wd4 or4 => ?_⟩
        have ir4 : Ir K A Pt H4 x S4 Tl kn3 := by
          refine ir3.move (fun b o e => ?_) wd4 tab4 ir.nil ?_ ?_ ?_
          · by_cases z1 : b = Pt
            · exact .inl (.inr (.inr (.inr (.inr (.inr z1)))))
            by_cases z2 : b = x.sd
            · exact .inl (.inr (.inl z2))
            by_cases z3 : b = x.a
            · exact .inl (.inr (.inr (.inr (.inl z3))))
            exact .inr (kp4 _ _ z1 z2 z3 e)
          · rcases or4 with rfl | ⟨w, rfl, _⟩
            · exact ir.s1
            · rw [List.length_append]
              show 1 ≤ S.length + 1
              omega
          · rcases or4 with rfl | ⟨w, rfl, nw⟩
            · exact ir.nd
            · exact nd_push ir.nd (new_not nw).2.2
          · rcases or4 with rfl | ⟨w, rfl, nw⟩
            · exact ir.wl
            · have nn := new_not nw
              intro u hu
              rw [List.length_append]
              show u.length ≤ S.length + 1
              rcases List.mem_append.mp hu with z | z
              · have := ir.wl u z
                omega
              · rw [List.mem_singleton.mp z]
                rcases List.mem_append.mp nn.2.1 with y | y
                · exact absurd y nn.1
                · obtain ⟨v, hv, hw⟩ := List.mem_flatMap.mp (List.mem_filter.mp y).1
                  obtain ⟨b, _, rfl⟩ := List.mem_map.mp hw
                  have := ir.wl v hv
                  rw [List.length_append]
                  show v.length + 1 ≤ S.length + 1
                  omega
        obtain ⟨ts4, ea4, hl4⟩ := id ir4.wd.la
        have lt4 := hl4.1
        refine ⟨_, rfl, ifDF rfl ?_⟩
        refine ⟨_, rfl, x.a, _, rfl, .inl (SqL.of ea4), ?_⟩
        rw [List.length_map, lt4]
        refine ⟨_, rfl, rfl, _, rfl, ite2 (fun c1 => ?_) (fun c1 => ?_)⟩
        · exact nx _ _ ⟨_, _, _, _, _, _, _, S4, kn3, rfl, ir4, by show kn3.length ≤ n + 1600; omega⟩
        · exact ⟨_, _, _, _, _, _, _, S4, kn3, rfl, ir4, by omega⟩
      · rintro σ H2 ⟨v10, v11, v12, v13, v14, v15, v16, S, kn, rfl, ir, kl⟩
        exact nx _ _ ⟨_, _, _, _, _, _, _, S, kn, rfl, ir, kl⟩
    have al3 : ∀ z : Int, 0 ≤ z % 3 ∧ z % 3 < 3 := fun z => by omega
    refine ⟨_, rfl, sc, ns, 0, rfl, hS, by decide, fun z0 => ?_⟩
    refine ⟨_, 0, 30, rfl, by decide, by decide, by decide, by decide, fun fs H1 f hf s1 hf0 ef => ?_⟩
    obtain ⟨y1, my1, ay1⟩ := atI_int (ns := fs) (i := 29) (by decide) (by rw [hf.1]; decide)
    obtain ⟨y2, my2, ay2⟩ := atI_int (ns := fs) (i := 28) (by decide) (by rw [hf.1]; decide)
    obtain ⟨y3, my3, ay3⟩ := atI_int (ns := fs) (i := 27) (by decide) (by rw [hf.1]; decide)
    refine ⟨_, rfl, .inl ⟨f, _, _, _, rfl, rfl, SqL.of ef, ay1, .inl ⟨_, rfl, _, _, rfl, rfl, (by show (0 : Int) < 3; decide), _, _, rfl, rfl, ?_⟩⟩⟩
    obtain ⟨L, eL, L1, L3⟩ : ∃ L : Nat, 1 + y1 % 3 = (L : Int) ∧ 1 ≤ L ∧ L ≤ 3 := ⟨(1 + y1 % 3).toNat, by omega, by omega, by omega⟩
    dsimp only
    rw [eL]
    have b2 : 2 ≤ 2 + y2 % 2 ∧ 2 + y2 % 2 ≤ 3 := by omega
    have b3 : 1 ≤ 1 + y3 % 5 ∧ 1 + y3 % 5 ≤ 5 := by omega
    refine ⟨_, rfl, _, rfl, _, rfl, .inl ⟨f, _, _, _, rfl, rfl, SqL.of ef, ay2, .inl ⟨_, rfl, _, _, rfl, rfl, (by show (0 : Int) < 2; decide), _, _, rfl, rfl, ?_⟩⟩⟩
    refine ⟨_, rfl, .inl ⟨f, _, _, _, rfl, rfl, SqL.of ef, ay3, .inl ⟨_, rfl, _, _, rfl, rfl, (by show (0 : Int) < 5; decide), _, _, rfl, rfl, ?_⟩⟩⟩
    refine ⟨f, fs, (L : Int), 2 + y2 % 2, 1 + y3 % 5, rfl, SqL.of ef, hf, by omega, by omega, b2.1, b2.2, b3.1, b3.2, fun M H2 m gM lM oM rM s2 hm => ?_⟩
    have s02 := s1.trans s2
    refine ⟨_, rfl, fun p dx np ndx nedx => ?_⟩
    refine ⟨p, dx, (L : Int), rfl, upd_same, fun H3 sd td tab3 b3' hsd htd nst => ⟨rfl, ?_⟩⟩
    have s3 : Same H2 H3 := fun b o e => b3' _ _ (by rw [upd_ne (ne_of_none e np), upd_ne (ne_of_none e ndx)]; exact e) (ne_of_none e np)
    refine ⟨_, rfl, fun p2 dx2 np2 ndx2 nedx2 => ?_⟩
    refine ⟨p2, dx2, (L : Int), rfl, upd_same, fun H4 sd2 td2 tab4 b4 hsd2 htd2 nst2 => ⟨rfl, ?_⟩⟩
    have s4 : Same H3 H4 := fun b o e => b4 _ _ (by rw [upd_ne (ne_of_none e np2), upd_ne (ne_of_none e ndx2)]; exact e) (ne_of_none e np2)
    have nw2 : ∀ {d b : Addr} {o : HO}, (upd (upd H3 dx2 (.own p2)) p2 (.ins A.a_Table dx2 [])) d = none → H3 b = some o → d ≠ b := fun hn e z => by
      rw [z, upd_ne (ne_of_none e np2), upd_ne (ne_of_none e ndx2), e] at hn
      cases hn
    have q1 : sd2 ≠ sd := nw2 hsd2 tab3.st
    have q2 : sd2 ≠ td := nw2 hsd2 tab3.tl
    have q3 : td2 ≠ sd := nw2 htd2 tab3.st
    have q4 : td2 ≠ td := nw2 htd2 tab3.tl
    have tab34 := tab3.same s4
    clear nw2 hsd2 htd2 b4 b3' hsd htd np np2 ndx ndx2
    have s24 := s3.trans s4
    have hm4 := hm.same s24
    have sc4 := (s02.trans s24).seq hS
    have hT4 : GxR.TabG H4 Pt := by
      obtain ⟨ps, q, r⟩ := hT
      exact ⟨ps, (s02.trans s24) _ _ q, r⟩
    refine ⟨Nat.zero_le _, fun e1 he1 => ⟨(by show 1 ≤ sizeLine; decide), fun a ha => ?_⟩⟩
    have s5 := same_upd (o := .lst [.ref e1]) (same_upd (o := .lst []) (Same.refl H4) he1) ha
    have ee5 := (same_upd (o := .lst [.ref e1]) (Same.refl _) ha) e1 _ upd_same
    have ea5 : (upd (upd H4 e1 (.lst [])) a (.lst [.ref e1])) a = some (.lst (([e1] : List Addr).map V.ref)) := upd_same
    generalize upd (upd H4 e1 (.lst [])) a (.lst [.ref e1]) = H5 at *
    refine ⟨Nat.zero_le _, fun e2 he2 => ⟨(by show 1 ≤ sizeLine; decide), fun b hb => ?_⟩⟩
    have s6 := same_upd (o := .lst [.ref e2]) (same_upd (o := .lst []) (Same.refl H5) he2) hb
    have ee6 := (same_upd (o := .lst [.ref e2]) (Same.refl _) hb) e2 _ upd_same
    have eb6 : (upd (upd H5 e2 (.lst [])) b (.lst [.ref e2])) b = some (.lst (([e2] : List Addr).map V.ref)) := upd_same
    have ab : a ≠ b := fun z => by
      rw [← z, upd_ne (ne_of_none ea5 he2), ea5] at hb
      cases hb
    generalize upd (upd H5 e2 (.lst [])) b (.lst [.ref e2]) = H6 at *
    intro kd hkd
    have s7 := same_upd (o := .dT []) (Same.refl H6) hkd
    have ek7 : (upd H6 kd (.dT [])) kd = some (.dT (kvsO [])) := upd_same
    generalize upd H6 kd (.dT []) = H7 at *
    have s47 := s5.trans (s6.trans s7)
    have nk : ∀ {c : Addr} {o : HO}, H6 c = some o → kd ≠ c := fun e z => by
      rw [z, e] at hkd
      cases hkd
    have s46 := s5.trans s6
    have sm0 : Small L [[]] [[]] := ⟨L1, by omega, by decide, fun w hw => by rw [List.mem_singleton.mp hw]; decide, by decide, fun w hw => by rw [List.mem_singleton.mp hw]; decide⟩
    have lt0 : ∀ w ∈ ([[]] : List (List Int)), Lt (L : Int) w := fun w hw z hz => by
      rw [List.mem_singleton.mp hw] at hz
      cases hz
    have ll1 : ∀ {H : Hp} {e : Addr}, H e = some (.lst []) → LL H [e] [[]] := fun {H e} q => ⟨rfl, fun i c w h1 h2 => by
      cases i with
      | zero =>
        cases h1
        cases h2
        exact q
      | succ i => simp at h1⟩
    have ir0 : Ir K A Pt H7 ⟨p, sd, td, p2, sd2, td2, m, a, b, kd, sc, M, L, ns⟩ [[]] [[]] [] :=
      { wd := ⟨tab34.same s47, hm4.same s47, ⟨[e1], (s6.trans s7) _ _ ea5, ll1 ((s6.trans s7) _ _ ee5)⟩, ⟨[e2], s7 _ _ eb6, ll1 (s7 _ _ ee6)⟩, ek7, fun w z h => (by cases h), ⟨sm0, lM, lt0, lt0⟩, nk (s46 _ _ tab34.st), nk (s46 _ _ tab34.tl), nst, gM, ab⟩
        tab := let ⟨ps, q, r⟩ := hT4; ⟨ps, s47 _ _ q, r⟩
        oth := tab4.same s47, scr := s47.seq sc4, nil := List.mem_singleton.mpr rfl, s1 := by decide, nd := by simp, wl := fun w hw => by (rw [List.mem_singleton.mp hw]; decide)
        d1 := q1, d2 := q2, d3 := Ne.symm (nk (s46 _ _ tab4.st)), d4 := q3, d5 := q4, d6 := Ne.symm (nk (s46 _ _ tab4.tl)), n5 := by show M.rows.length ≤ 5; omega, l3 := L3 }
    have scH := ir0.scr
    have scH : SqL K H7 sc (ns.map V.int) := scH
    refine ⟨_, rfl, sc, _, rfl, .inl scH, ?_⟩
    rw [List.length_map]
    refine ⟨_, _, rfl, _, _, rfl, 1, _, rfl, ⟨by decide, by decide, ?_⟩, ?_⟩
    · split <;> split <;> omega
    have hb5 : ((if (if (5 : Int) < (ns.length : Int) then (5 : Int) else (ns.length : Int)) > 2 then (if (5 : Int) < (ns.length : Int) then (5 : Int) else (ns.length : Int)) else 2) - 1).toNat ≤ 4 := by split <;> split <;> omega
    refine for_range (lo := 1) (fun i σ H' => ∃ (v9 v10 v11 v12 v13 v14 v15 v16 : Option V) (S Tl : List (List Int)) (kn : List (List Int × Int)), σ = [some (.ref sc), some (.ref f), some (.int (L : Int)), some (.ref m), some (.ref p), some (.ref p2), some (.ref a), some (.ref b), some (.ref kd), v9, v10, v11, v12, v13, v14, v15, v16] ∧ Ir K A Pt H' ⟨p, sd, td, p2, sd2, td2, m, a, b, kd, sc, M, L, ns⟩ S Tl kn ∧ Tl.length ≤ 1 + i ∧ kn.length ≤ 1600 * i)
      ⟨_, _, _, _, _, _, _, _, [[]], [[]], [], rfl, ir0, Nat.le_refl _, Nat.le_refl _⟩ ?_ ?_
    · rintro i σ H8 hi ⟨v9, v10, v11, v12, v13, v14, v15, v16, S, Tl, kn, rfl, ir, tl, kl⟩
      have i3 : i < 4 := Nat.lt_of_lt_of_le hi hb5
      refine ⟨⟨⟨p, sd, td, p2, sd2, td2, m, a, b, kd, sc, M, L, ns⟩, Tl, .int (1 + (i : Int)), f, 1600 * i⟩, ⟨_, _, _, _, _, _, _, S, kn, rfl, ir, by show Tl.length ≤ 5; omega, kl, by show 1600 * i ≤ 20000; omega⟩, ?_⟩
      rintro σ H9 ⟨v10, v11, v12, v13, v14, v15, v16, S, kn, rfl, ir9, kl9⟩
      have ir9 : Ir K A Pt H9 ⟨p, sd, td, p2, sd2, td2, m, a, b, kd, sc, M, L, ns⟩ S Tl kn := ir9
      have sc9 : SqL K H9 sc (ns.map V.int) := ir9.scr
      refine ⟨_, rfl, _, rfl, sc, ns, 1 + (i : Int), rfl, sc9, by omega, fun zc => ?_⟩
      refine ⟨_, rfl, zc, 1 + (i : Int), 5, rfl, by omega, by omega, by decide, by decide, fun fs2 H10 f2 hf2 s10 hf20 ef2 => ?_⟩
      have ir10 := ir9.same s10
      obtain ⟨y4, my4, ay4⟩ := atI_int (ns := fs2) (i := 4) (by decide) (by rw [hf2.1]; decide)
      have r4 : 1 ≤ 1 + y4 % 4 ∧ 1 + y4 % 4 ≤ 4 := by omega
      refine ⟨_, rfl, .inl ⟨f2, _, _, _, rfl, rfl, SqL.of ef2, ay4, .inl ⟨_, rfl, _, _, rfl, rfl, (by show (0 : Int) < 4; decide), _, _, rfl, rfl, ?_⟩⟩⟩
      refine ⟨1 + y4 % 4, rfl, by omega, by omega, fun D hD => ?_⟩
      refine lc_it (walk_range (lo := 0) (n := ((1 + y4 % 4)).toNat)) (fun t H' => ∃ w : List Int, Same H10 H' ∧ H' D = some (.lst (w.map V.int)) ∧ w.length = t ∧ Lt (L : Int) w) ⟨[], same_upd (Same.refl _) hD, upd_same, rfl, fun z hz => absurd hz (by simp)⟩ (fun _ _ _ _ => trivial) ?_ ?_
      · rintro t x H11x H11 ht ⟨w, s11, e11, l11, lt11⟩ ⟨rfl, rfl⟩
        have t4 : t < 4 := by omega
        obtain ⟨y5, my5, ay5⟩ := atI_int (ns := fs2) (i := 0 + (t : Int)) (by omega) (by rw [hf2.1]; omega)
        refine ⟨rfl, ?_⟩
        refine ⟨_, rfl, _, rfl, .inl ⟨f2, _, _, _, rfl, rfl, SqL.of (s11 _ _ ef2), ay5, .inl ⟨_, rfl, _, rfl, _, _, rfl, rfl, (by show (0 : Int) < (L : Int); omega), ?_⟩⟩⟩
        refine ⟨_, e11, ?_, w ++ [y5 % (L : Int)], same_set s11 hD, by rw [upd_same, List.map_append]; rfl, by rw [List.length_append, l11]; rfl, fun z hz => ?_⟩
        · rw [List.length_map]
          exact Nat.lt_of_le_of_lt (by omega : w.length ≤ 4) (by decide)
        · rcases List.mem_append.mp hz with e | e
          · exact lt11 z e
          · rw [List.mem_singleton.mp e]
            exact ⟨Int.emod_nonneg _ (by omega), Int.emod_lt_of_pos _ (by omega)⟩
      · rintro H11 ⟨w, s11, e11, l11, lt11⟩
        have ir11 := ir10.same s11
        have wl4 : w.length ≤ 4 := by omega
        refine ⟨_, rfl, D, _, rfl, .inl (SqL.of e11), fun hd hhd => ?_⟩
        have s12 := same_upd (o := .lst (w.map V.int)) (Same.refl H11) hhd
        have e12 := s12 _ _ e11
        have eh12 : (upd H11 hd (.lst (w.map V.int))) hd = some (.lst (w.map V.int)) := upd_same
        have ir12 := ir11.same s12
        have hdD : hd ≠ D := fun z => by
          rw [z, e11] at hhd
          cases hhd
        generalize upd H11 hd (.lst (w.map V.int)) = H12 at *
        obtain ⟨us, eb11, hu11⟩ := id ir11.wd.lb
        have eb11 : H11 b = some (.lst (us.map V.ref)) := eb11
        have eb12 := s12 _ _ eb11
        have hu12 := hu11.same s12
        obtain ⟨⟨dxp, ob12⟩, di12, dt12⟩ := id ir12.wd.tab
        have ob12 : H12 p = some (.ins A.a_Table dxp (sF (L : Int) sd td)) := ob12
        have tab12 : TabAt A.a_Table H12 p sd td (L : Int) S Tl := ir12.wd.tab
        have ptd : p ≠ td := fun z => by
          have e : H12 td = some (.dT (kvsW Tl)) := dt12
          rw [z, e] at ob12
          cases ob12
        have Tne : Tl ≠ [] := fun z => by
          have := ir12.nil
          rw [z] at this
          cases this
        have sm12 := ir12.wd.fi.sm
        have t100 := sm12.t100
        refine ⟨_, rfl, _, rfl, in_ll e12 eb12 hu12 ⟨_, rfl, ite2 (fun mem => ?mem) (fun nmem => ?nmem)⟩⟩
        case' mem =>
          have mem : w ∈ Tl := of_decide_eq_true mem
          refine ⟨_, rfl, _, rfl, p, sd, td, hd, (L : Int), S, Tl, w, rfl, tab12, eh12, by omega, t100, nst, ptd, mem, fun H13 s13 => ⟨_, rfl, ifDF rfl ?_⟩⟩
          obtain ⟨T5, eT5⟩ : ∃ T5, T5 = Tl := ⟨_, rfl⟩
          have ir13 : Ir K A Pt H13 ⟨p, sd, td, p2, sd2, td2, m, a, b, kd, sc, M, L, ns⟩ S T5 kn := by
            rw [eT5]
            exact ir12.same s13
          have tl5 : T5.length ≤ 1 + (i + 1) := by rw [eT5]; omega
          clear mem
        case' nmem =>
          have nmem : w ∉ Tl := fun z => nmem (decide_eq_true z)
          refine ⟨_, rfl, p, dxp, _, rfl, ob12, sF_no _ _ _ (by decide +kernel) (by decide +kernel) (by decide +kernel), _, rfl, ?_⟩
          refine ⟨p, sd, td, hd, (L : Int), S, Tl, w, rfl, tab12, eh12, by omega, t100, nst, ptd, fun z => absurd z nmem, fun _ H14 tab14 bt14 => ?_⟩
          have dtT : H12 td = some (.dT (kvsW Tl)) := dt12
          have nl : ∀ {c : Addr} {xs : List V}, H12 c = some (.lst xs) → c ≠ td := fun q z => by
            rw [z, dtT] at q
            cases q
          have nt : ∀ {c : Addr} {xs : List V}, H12 c = some (.tup xs) → c ≠ td := fun q z => by
            rw [z, dtT] at q
            cases q
          have eb14 := bt14 _ _ eb12 (nl eb12)
          have ew14 := bt14 _ _ e12 (nl e12)
          have eh14 := bt14 _ _ eh12 (nl eh12)
          have hu14 : LL H14 us Tl := ⟨hu12.1, fun i c v p q => bt14 _ _ (hu12.2 i c v p q) (nl (hu12.2 i c v p q))⟩
          have lu := hu14.1
          refine ⟨_, rfl, .inl ⟨rfl, _, SqL.of eb14⟩, _, rfl, b, _, _, rfl, rfl, eb14, ?_, ?_⟩
          · rw [List.length_map]
            exact Nat.lt_of_le_of_lt (by omega : us.length ≤ 100) (by decide)
          have lb15 := LA.push eb14 hu14 Tne ew14
          have hdb : hd ≠ b := LA.ne eb14 hu14 Tne eh14
          have kb : ∀ {c : Addr} {o : HO}, H14 c = some o → c ≠ b → (upd H14 b (.lst (us.map V.ref ++ [V.ref D]))) c = some o := fun e n => (upd_ne n).trans e
          have eh15 := kb eh14 hdb
          refine ⟨_, rfl, .inl ⟨rfl, _, SqL.of eh15⟩, hd, _, _, rfl, rfl, eh15, ?_, ?_⟩
          · rw [List.length_map]
            exact Nat.lt_of_le_of_lt wl4 (by decide)
          obtain ⟨T5, eT5⟩ : ∃ T5, T5 = Tl ++ [w] := ⟨_, rfl⟩
          have ir13 : Ir K A Pt (upd (upd H14 b (.lst (us.map V.ref ++ [V.ref D]))) hd (.lst (w.map V.int ++ [V.int 0]))) ⟨p, sd, td, p2, sd2, td2, m, a, b, kd, sc, M, L, ns⟩ S T5 kn := by
            rw [eT5]
            have nbl : ∀ {c : Addr} {v : List Int}, H14 c = some (.lst (v.map V.int)) → c ≠ b := fun e => LA.ne eb14 hu14 Tne e
            have kX : ∀ {c : Addr} {o : HO}, H14 c = some o → c ≠ b → c ≠ hd → (upd (upd H14 b (.lst (us.map V.ref ++ [V.ref D]))) hd (.lst (w.map V.int ++ [V.int 0]))) c = some o := fun e n1 n2 => (upd_ne n2).trans ((upd_ne n1).trans e)
            have kN : ∀ {c : Addr} {o : HO}, H14 c = some o → (∀ xs, o ≠ .lst xs) → (upd (upd H14 b (.lst (us.map V.ref ++ [V.ref D]))) hd (.lst (w.map V.int ++ [V.int 0]))) c = some o := fun {c o} e n => kX e (fun z => by
              rw [z, eb14] at e
              exact n _ (Option.some.inj e).symm) (fun z => by
              rw [z, eh14] at e
              exact n _ (Option.some.inj e).symm)
            obtain ⟨ts, ea11, hl11⟩ := id ir11.wd.la
            have ea11 : H11 a = some (.lst (ts.map V.ref)) := ea11
            obtain ⟨mv, ou, rs, hMt⟩ := id ir12.wd.ma
            have kno12 : H12 kd = some (.dT (kvsO kn)) := ir12.wd.kno
            have ktd : kd ≠ td := ir12.wd.kt
            have fi12 := ir12.wd.fi
            refine ir11.move (fun c o e => ?_) ⟨⟨let ⟨dx, e⟩ := tab14.ob; ⟨dx, kN e (fun xs z => by cases z)⟩, kN tab14.st (fun xs z => by cases z), kN tab14.tl (fun xs z => by cases z)⟩, ?_, ?_, ?_, kN (bt14 _ _ kno12 ktd) (fun xs z => by cases z), ir12.wd.ri, ?_, ir12.wd.ks, ir12.wd.kt, ir12.wd.st, ir12.wd.go, ir12.wd.ab⟩ ?_ (List.mem_append_left _ ir12.nil) ir12.s1 (nd_more ir12.nd) ir12.wl
            · by_cases z1 : c = td
              · exact .inl (.inr (.inr (.inl z1)))
              by_cases z2 : c = b
              · exact .inl (.inr (.inr (.inr (.inr (.inl z2)))))
              exact .inr (kX (bt14 _ _ (s12 _ _ e) z1) z2 (ne_of_none e hhd))
            · exact ⟨mv, ou, rs, kN (bt14 _ _ hMt.top (nt hMt.top)) (fun xs z => by cases z), kN (bt14 _ _ hMt.mv (nt hMt.mv)) (fun xs z => by cases z), kN (bt14 _ _ hMt.ou (nt hMt.ou)) (fun xs z => by cases z), hMt.len, fun i r w p q => kN (bt14 _ _ (hMt.row i r w p q) (nt (hMt.row i r w p q))) (fun xs z => by cases z)⟩
            · refine ⟨ts, kX (bt14 _ _ (s12 _ _ ea11) (nl (s12 _ _ ea11))) ab (ne_of_none ea11 hhd), hl11.1, fun i c v p q => ?_⟩
              have e11 := hl11.2 i c v p q
              have e14 := bt14 _ _ (s12 _ _ e11) (nl (s12 _ _ e11))
              exact kX e14 (nbl e14) (ne_of_none e11 hhd)
            · refine ⟨us ++ [D], by rw [upd_ne (ne_of_none eb11 hhd), upd_same, List.map_append]; rfl, by rw [List.length_append, List.length_append, lu]; rfl, fun i c v p q => ?_⟩
              have both : H14 c = some (.lst (v.map V.int)) ∧ c ≠ hd := by
                by_cases z : i < us.length
                · rw [List.getElem?_append_left z] at p
                  rw [List.getElem?_append_left (by rw [← lu]; exact z)] at q
                  exact ⟨hu14.2 i c v p q, ne_of_none (hu11.2 i c v p q) hhd⟩
                · rw [List.getElem?_append_right (by omega)] at p
                  rw [List.getElem?_append_right (by omega), ← lu] at q
                  obtain ⟨z1, _⟩ := List.getElem?_eq_some_iff.mp p
                  have z0 : i - us.length = 0 := by simp at z1; omega
                  rw [z0] at p q
                  cases p
                  cases q
                  exact ⟨ew14, Ne.symm hdD⟩
              exact kX both.1 (nbl both.1) both.2
            · refine ⟨⟨sm12.l1, sm12.l4, sm12.s100, sm12.ss, by rw [List.length_append]; show Tl.length + 1 ≤ 100; omega, fun x hx => ?_⟩, fi12.ls, fi12.sl, fun x hx => ?_⟩
              · rcases List.mem_append.mp hx with z | z
                · exact sm12.ts x z
                · rw [List.mem_singleton.mp z]
                  omega
              · rcases List.mem_append.mp hx with z | z
                · exact fi12.tl x z
                · rw [List.mem_singleton.mp z]
                  exact lt11
            · obtain ⟨ps, q, r⟩ := ir12.tab
              exact ⟨ps, kN (bt14 _ _ q (fun z => by rw [z, dtT] at q; cases q)) (fun xs z => by cases z), r⟩
          have tl5 : T5.length ≤ 1 + (i + 1) := by
            rw [eT5, List.length_append]
            show Tl.length + 1 ≤ _
            omega
          generalize upd (upd H14 b (.lst (us.map V.ref ++ [V.ref D]))) hd (.lst (w.map V.int ++ [V.int 0])) = H13 at *
          clear nmem eb14 ew14 eh14 hu14 lu lb15 kb eh15 bt14 tab14
        all_goals
          obtain ⟨⟨dx13, ob13⟩, di13, dt13⟩ := id ir13.wd.tab
          have ob13 : H13 p = some (.ins A.a_Table dx13 (sF (L : Int) sd td)) := ob13
          have tab13 : TabAt A.a_Table H13 p sd td (L : Int) S T5 := ir13.wd.tab
          refine ⟨_, rfl, p, dx13, _, rfl, ob13, sF_no _ _ _ (by decide +kernel) (by decide +kernel) (by decide +kernel), ?_⟩
          refine ⟨p, sd, td, (L : Int), S, T5, rfl, tab13, by omega, fun H14 q14 ts14 s14 eq14 l14 _ _ => ?_⟩
          have ir14 := ir13.same s14
          obtain ⟨us14, eb14, hu14⟩ := id ir14.wd.lb
          have eb14 : H14 b = some (.lst (us14.map V.ref)) := eb14
          refine ⟨_, rfl, ne_lls eq14 l14 eb14 hu14 ⟨_, rfl, ?_⟩⟩
          rw [decide_eq_true rfl]
          refine ifDF rfl ?_
          refine ⟨_, rfl, Nat.zero_le _, fun e hhe => ?_⟩
          have s15 := same_upd (o := .lst []) (Same.refl H14) hhe
          have ee15 : (upd H14 e (.lst [])) e = some (.lst (([] : List Int).map V.int)) := upd_same
          have ir15 := ir14.same s15
          generalize upd H14 e (.lst []) = H15 at *
          have tab15 : TabAt A.a_Table H15 p sd td (L : Int) S T5 := ir15.wd.tab
          refine ⟨p, sd, td, e, (L : Int), S, T5, [], rfl, tab15, ee15, by decide, by omega, nst, ptd, ir15.nil, fun H16 s16 => ⟨_, rfl, ?_⟩⟩
          refine ifDF rfl ?_
          exact ⟨_, _, _, _, _, _, _, _, S, T5, kn, rfl, ir15.same s16, tl5, by have : kn.length ≤ 1600 * i + 1600 := kl9; omega⟩
    · rintro σ H8 ⟨v9, v10, v11, v12, v13, v14, v15, v16, S, Tl, kn, rfl, ir, tl, kl⟩
      have tab8 : TabAt A.a_Table H8 p sd td (L : Int) S Tl := ir.wd.tab
      have s100 := ir.wd.fi.sm.s100
      obtain ⟨⟨dx8, ob8⟩, di8, dt8⟩ := id tab8
      refine ⟨_, rfl, p, dx8, _, rfl, ob8, sF_no _ _ _ (by decide +kernel) (by decide +kernel) (by decide +kernel), ?_⟩
      refine ⟨p, sd, td, (L : Int), S, Tl, rfl, tab8, by omega, fun H9 q9 ts9 s9 eq9 l9 hq9 _ => ?_⟩
      refine ⟨_, rfl, .inl ⟨rfl, _, SqL.of eq9⟩, (by show 1 ≤ sizeLine; decide), fun z9 hz9 => ?_⟩
      have s10 := same_upd (o := .lst [.int 0]) s9 hz9
      have eq10 := (same_upd (o := .lst [.int 0]) (Same.refl H9) hz9) _ _ eq9
      generalize upd H9 z9 (.lst [.int 0]) = H10 at *
      have lt9 := l9.1
      refine ⟨q9, _, _, rfl, rfl, eq10, ?_, ?_⟩
      · rw [List.length_map]
        exact Nat.lt_of_le_of_lt (by omega : ts9.length ≤ 100) (by decide)
      have ir11 := ir.same (same_set (o := .lst (ts9.map V.ref ++ [V.ref z9])) s10 hq9)
      generalize upd H10 q9 (.lst (ts9.map V.ref ++ [V.ref z9])) = H11 at *
      have tab11 : TabAt A.a_Table H11 p sd td (L : Int) S Tl := ir11.wd.tab
      obtain ⟨⟨dx11, ob11⟩, _, _⟩ := id tab11
      refine ⟨_, rfl, p, dx11, _, rfl, ob11, sF_no _ _ _ (by decide +kernel) (by decide +kernel) (by decide +kernel), ?_⟩
      refine ⟨p, sd, td, (L : Int), S, Tl, rfl, tab11, by omega, fun H12 q12 ts12 s12 eq12 l12 _ _ => ?_⟩
      have ir12 := ir11.same s12
      obtain ⟨ts0, ea12, hl12⟩ := id ir12.wd.la
      have ea12 : H12 a = some (.lst (ts0.map V.ref)) := ea12
      refine ⟨_, rfl, eq_lls eq12 l12 ea12 hl12 ⟨_, rfl, ?_⟩⟩
      rw [decide_eq_true rfl]
      refine ifDT rfl ?_
      have oth12 : TabAt A.a_Table H12 p2 sd2 td2 (L : Int) [[]] [[]] := ir12.oth
      obtain ⟨⟨dy12, oy12⟩, _, _⟩ := id oth12
      refine ⟨_, rfl, p2, dy12, _, rfl, oy12, sF_no _ _ _ (by decide +kernel) (by decide +kernel) (by decide +kernel), ?_⟩
      refine ⟨p2, sd2, td2, (L : Int), [[]], [[]], rfl, oth12, by decide, fun H13 q13 ts13 s13 eq13 l13 _ _ => ?_⟩
      refine ⟨Nat.zero_le _, fun e1 he1 => ⟨(by show 1 ≤ sizeLine; decide), fun e2 he2 => ?_⟩⟩
      have s14 := same_upd (o := .lst [.ref e1]) (same_upd (o := .lst []) (Same.refl H13) he1) he2
      have ee1 := (same_upd (o := .lst [.ref e1]) (Same.refl _) he2) e1 _ upd_same
      have ee2 : (upd (upd H13 e1 (.lst [])) e2 (.lst [.ref e1])) e2 = some (.lst (([e1] : List Addr).map V.ref)) := upd_same
      have l14 := l13.same s14
      have eq14 := s14 _ _ eq13
      have oth14 := oth12.same (s13.trans s14)
      generalize upd (upd H13 e1 (.lst [])) e2 (.lst [.ref e1]) = H14 at *
      refine eq_lls eq14 l14 ee2 (ll1 ee1) ⟨_, rfl, ?_⟩
      rw [decide_eq_true rfl]
      refine ifDT rfl ?_
      obtain ⟨⟨dy14, oy14⟩, _, _⟩ := id oth14
      refine ⟨_, rfl, p2, dy14, _, rfl, oy14, sF_no _ _ _ (by decide +kernel) (by decide +kernel) (by decide +kernel), ?_⟩
      refine ⟨p2, sd2, td2, (L : Int), [[]], [[]], rfl, oth14, by decide, fun H15 q15 ts15 s15 eq15 l15 _ _ => ?_⟩
      refine ⟨Nat.zero_le _, fun e3 he3 => ⟨(by show 1 ≤ sizeLine; decide), fun e4 he4 => ?_⟩⟩
      have s16 := same_upd (o := .lst [.ref e3]) (same_upd (o := .lst []) (Same.refl H15) he3) he4
      have ee3 := (same_upd (o := .lst [.ref e3]) (Same.refl _) he4) e3 _ upd_same
      refine eq_lls (s16 _ _ eq15) (l15.same s16) (bs := [e3]) upd_same (ll1 ee3) ?_
      rw [decide_eq_true rfl]
      exact fin _
end
end K11

set_option Elab.async false
set_option linter.all false
set_option maxRecDepth 100000
set_option maxHeartbeats 4000000
namespace K11
open PySem PySem.Spec PyProof.Rows L2 L2H Mz
theorem all_mk {K : PySem.W.Frag} {h : Heap} {mg : Str → Option Value} {fa : Addr} (X : K.In h) (G : h.Ns mainGlobals mg) (hfa : mg "law" = some (.ref fa))
    {c_MaieuticError c_NotAllowed c_Missing c_Alike c_Table f_walk f_Table_init f_Table_state_words f_Table_columns f_Table_wanted f_Table_extend f_Table_add_column f_Table_mistake f_Table_machine f_Table_rows f_Table_new_row f_Table_outputs f_law_cell f_law_numbers f_law_machine f_law_state f_law_output f_law_rows f_law_wanted f_law_row f_law_made f_law_mistake f_law_machine_told f_law_alike f_law_filled f_law_extended f_law : Addr} {od0 an0 od1 an1 od2 an2 od3 an3 od4 an4 od5 an5 od6 an6 od7 an7 od8 an8 od9 an9 od10 an10 od11 an11 od12 an12 od13 an13 od14 an14 od15 an15 od16 an16 od17 an17 od18 an18 od19 an19 od20 an20 od21 an21 od22 an22 od23 an23 od24 an24 od25 an25 od26 an26 : Option Addr} {sl0 sl1 sl2 sl3 sl4 sl5 sl6 sl7 sl8 sl9 sl10 sl11 sl12 sl13 sl14 sl15 sl16 sl17 sl18 sl19 sl20 sl21 sl22 sl23 sl24 sl25 sl26 : Array (Option Value)}
    {oc0 kV0 dc0 pm0 cd0 ct0 oc1 kV1 dc1 pm1 cd1 ct1 oc2 kV2 dc2 pm2 cd2 ct2 oc3 kV3 dc3 pm3 cd3 ct3 oc4 kV4 dc4 pm4 cd4 ct4 oc5 kV5 dc5 pm5 cd5 ct5 oc6 kV6 dc6 pm6 cd6 ct6 oc7 kV7 dc7 pm7 cd7 ct7 oc8 kV8 dc8 pm8 ct8 oc9 kV9 dc9 pm9 cd9 ct9 oc10 kV10 dc10 pm10 cd10 ct10 oc11 kV11 dc11 pm11 cd11 ct11 oc12 kV12 dc12 pm12 cd12 ct12 oc13 kV13 dc13 pm13 cd13 ct13 oc14 kV14 dc14 pm14 cd14 ct14 oc15 kV15 dc15 pm15 cd15 ct15 oc16 kV16 dc16 pm16 cd16 ct16 oc17 kV17 dc17 pm17 cd17 ct17 oc18 kV18 dc18 pm18 cd18 ct18 oc19 kV19 dc19 pm19 cd19 ct19 oc20 kV20 dc20 pm20 cd20 ct20 oc21 kV21 dc21 pm21 cd21 ct21 oc22 kV22 dc22 pm22 cd22 ct22 oc23 kV23 dc23 pm23 cd23 ct23 oc24 kV24 dc24 pm24 cd24 ct24 oc25 kV25 dc25 pm25 cd25 ct25 oc26 kV26 dc26 pm26 cd26 ct26 : Value}
    {tc8 tp8 : Addr} {te8 : Value} {td8 : Option Addr} {tv8 : Array Value} {ts8 : Array (Option Value)}
    (r_MaieuticError : PySem.W.nsIn K mainGlobals "MaieuticError" = some (some (.ref c_MaieuticError)))
    (rx_MaieuticError : PySem.W.excIn K c_MaieuticError [.type "ValueError", .type "Exception", .type "BaseException", .type "object"] "ValueError.__new__" = true)
    (rk_MaieuticError : PySem.W.keepIn K (.ref c_MaieuticError) = true)
    (rb_MaieuticError : PySem.W.subIn K (.ref c_MaieuticError) (.type "BaseException") = some true)
    (rt_MaieuticError : PySem.W.typeIn K (.ref c_MaieuticError) = some (.type "type"))
    (rga_MaieuticError : PySem.W.findIn K (.ref c_MaieuticError) "__getattribute__" = some (some (.builtin "BaseException.__getattribute__")))
    (rgg_MaieuticError : PySem.W.findIn K (.ref c_MaieuticError) "__getattr__" = some none)
    (rh_MaieuticError : PySem.W.hasDictIn K c_MaieuticError = true)
    (rc_MaieuticError : PySem.W.findIn K (.ref c_MaieuticError) "__class__" = some (some (.builtin "object.__class__")))
    (rm_MaieuticError : PySem.W.mroIn K c_MaieuticError (.type "object") = some true)
    (r_NotAllowed : PySem.W.nsIn K mainGlobals "NotAllowed" = some (some (.ref c_NotAllowed)))
    (rx_NotAllowed : PySem.W.excIn K c_NotAllowed [.type "ValueError", .type "Exception", .type "BaseException", .type "object"] "ValueError.__new__" = true)
    (rk_NotAllowed : PySem.W.keepIn K (.ref c_NotAllowed) = true)
    (rb_NotAllowed : PySem.W.subIn K (.ref c_NotAllowed) (.type "BaseException") = some true)
    (rt_NotAllowed : PySem.W.typeIn K (.ref c_NotAllowed) = some (.type "type"))
    (rga_NotAllowed : PySem.W.findIn K (.ref c_NotAllowed) "__getattribute__" = some (some (.builtin "BaseException.__getattribute__")))
    (rgg_NotAllowed : PySem.W.findIn K (.ref c_NotAllowed) "__getattr__" = some none)
    (rh_NotAllowed : PySem.W.hasDictIn K c_NotAllowed = true)
    (rc_NotAllowed : PySem.W.findIn K (.ref c_NotAllowed) "__class__" = some (some (.builtin "object.__class__")))
    (rm_NotAllowed : PySem.W.mroIn K c_NotAllowed (.type "object") = some true)
    (r_Missing : PySem.W.nsIn K mainGlobals "Missing" = some (some (.ref c_Missing)))
    (rx_Missing : PySem.W.excIn K c_Missing [.type "ValueError", .type "Exception", .type "BaseException", .type "object"] "ValueError.__new__" = true)
    (rk_Missing : PySem.W.keepIn K (.ref c_Missing) = true)
    (rb_Missing : PySem.W.subIn K (.ref c_Missing) (.type "BaseException") = some true)
    (rt_Missing : PySem.W.typeIn K (.ref c_Missing) = some (.type "type"))
    (rga_Missing : PySem.W.findIn K (.ref c_Missing) "__getattribute__" = some (some (.builtin "BaseException.__getattribute__")))
    (rgg_Missing : PySem.W.findIn K (.ref c_Missing) "__getattr__" = some none)
    (rh_Missing : PySem.W.hasDictIn K c_Missing = true)
    (rc_Missing : PySem.W.findIn K (.ref c_Missing) "__class__" = some (some (.builtin "object.__class__")))
    (rm_Missing : PySem.W.mroIn K c_Missing (.type "object") = some true)
    (r_Alike : PySem.W.nsIn K mainGlobals "Alike" = some (some (.ref c_Alike)))
    (rx_Alike : PySem.W.excIn K c_Alike [.type "ValueError", .type "Exception", .type "BaseException", .type "object"] "ValueError.__new__" = true)
    (rk_Alike : PySem.W.keepIn K (.ref c_Alike) = true)
    (rb_Alike : PySem.W.subIn K (.ref c_Alike) (.type "BaseException") = some true)
    (rt_Alike : PySem.W.typeIn K (.ref c_Alike) = some (.type "type"))
    (rga_Alike : PySem.W.findIn K (.ref c_Alike) "__getattribute__" = some (some (.builtin "BaseException.__getattribute__")))
    (rgg_Alike : PySem.W.findIn K (.ref c_Alike) "__getattr__" = some none)
    (rh_Alike : PySem.W.hasDictIn K c_Alike = true)
    (rc_Alike : PySem.W.findIn K (.ref c_Alike) "__class__" = some (some (.builtin "object.__class__")))
    (rm_Alike : PySem.W.mroIn K c_Alike (.type "object") = some true)
    (r_Table : PySem.W.nsIn K mainGlobals "Table" = some (some (.ref c_Table)))
    (rpg_Table : PySem.W.plainGet K c_Table Str.empty = true)
    (rhd_Table : PySem.W.hasDictIn K c_Table = true)
    (rpo_Table : PySem.W.plainOver K c_Table = true)
    (rsa_Table : PySem.W.findIn K (.ref c_Table) "__setattr__" = some (some (.builtin "object.__setattr__")))
    (rmk_Table : PySem.W.makesIn K c_Table = true)
    (rkc_Table : PySem.W.keepIn K (.ref c_Table) = true)
    (rn_Table_letters : PySem.W.findIn K (.ref c_Table) "_letters" = some none)
    (rn_Table_states : PySem.W.findIn K (.ref c_Table) "_states" = some none)
    (rn_Table_tails : PySem.W.findIn K (.ref c_Table) "_tails" = some none)
    (ra1 : PySem.W.specialIn K (.builtin "object.__class__") "__get__" = some (some (.builtin "getset_descriptor.__get__")))
    (ra2 : PySem.W.takesIn K (.builtin "object.__class__") = some true)
    (rsu_MaieuticError_MaieuticError : PySem.W.subIn K (.ref c_MaieuticError) (.ref c_MaieuticError) = some true)
    (rsu_MaieuticError_NotAllowed : PySem.W.subIn K (.ref c_MaieuticError) (.ref c_NotAllowed) = some false)
    (rsu_MaieuticError_Missing : PySem.W.subIn K (.ref c_MaieuticError) (.ref c_Missing) = some false)
    (rsu_MaieuticError_Alike : PySem.W.subIn K (.ref c_MaieuticError) (.ref c_Alike) = some false)
    (rsu_NotAllowed_MaieuticError : PySem.W.subIn K (.ref c_NotAllowed) (.ref c_MaieuticError) = some true)
    (rsu_NotAllowed_NotAllowed : PySem.W.subIn K (.ref c_NotAllowed) (.ref c_NotAllowed) = some true)
    (rsu_NotAllowed_Missing : PySem.W.subIn K (.ref c_NotAllowed) (.ref c_Missing) = some false)
    (rsu_NotAllowed_Alike : PySem.W.subIn K (.ref c_NotAllowed) (.ref c_Alike) = some false)
    (rsu_Missing_MaieuticError : PySem.W.subIn K (.ref c_Missing) (.ref c_MaieuticError) = some true)
    (rsu_Missing_NotAllowed : PySem.W.subIn K (.ref c_Missing) (.ref c_NotAllowed) = some false)
    (rsu_Missing_Missing : PySem.W.subIn K (.ref c_Missing) (.ref c_Missing) = some true)
    (rsu_Missing_Alike : PySem.W.subIn K (.ref c_Missing) (.ref c_Alike) = some false)
    (rsu_Alike_MaieuticError : PySem.W.subIn K (.ref c_Alike) (.ref c_MaieuticError) = some true)
    (rsu_Alike_NotAllowed : PySem.W.subIn K (.ref c_Alike) (.ref c_NotAllowed) = some false)
    (rsu_Alike_Missing : PySem.W.subIn K (.ref c_Alike) (.ref c_Missing) = some false)
    (rsu_Alike_Alike : PySem.W.subIn K (.ref c_Alike) (.ref c_Alike) = some true)
    (q_walk : PySem.W.nsIn K mainGlobals "walk" = some (some (.ref f_walk)))
    (l_walk : K.lookup f_walk = some ⟨oc0, od0, .func (PySem.W.fnOf "walk" "walk" (defArgs s_walk) (defBody s_walk) (defScope s_walk) .none kV0 dc0 pm0 an0 cd0 ct0), sl0⟩)
    (cc_walk : PySem.W.codeIn K cd0 "walk" = true)
    (kk_walk : PySem.W.keepIn K (.ref f_walk) = true)
    (q_Table_init : PySem.W.findIn K (.ref c_Table) "__init__" = some (some (.ref f_Table_init)))
    (i_Table_init : PySem.W.isFn K (.ref f_Table_init) = true)
    (l_Table_init : K.lookup f_Table_init = some ⟨oc1, od1, .func (PySem.W.fnOf "__init__" "Table.__init__" (defArgs s_Table_init) (defBody s_Table_init) (defScope s_Table_init) .none kV1 dc1 pm1 an1 cd1 ct1), sl1⟩)
    (cc_Table_init : PySem.W.codeIn K cd1 "Table.__init__" = true)
    (kk_Table_init : PySem.W.keepIn K (.ref f_Table_init) = true)
    (q_Table_state_words : PySem.W.findIn K (.ref c_Table) "state_words" = some (some (.ref f_Table_state_words)))
    (i_Table_state_words : PySem.W.isFn K (.ref f_Table_state_words) = true)
    (l_Table_state_words : K.lookup f_Table_state_words = some ⟨oc2, od2, .func (PySem.W.fnOf "state_words" "Table.state_words" (defArgs s_Table_state_words) (defBody s_Table_state_words) (defScope s_Table_state_words) .none kV2 dc2 pm2 an2 cd2 ct2), sl2⟩)
    (cc_Table_state_words : PySem.W.codeIn K cd2 "Table.state_words" = true)
    (kk_Table_state_words : PySem.W.keepIn K (.ref f_Table_state_words) = true)
    (q_Table_columns : PySem.W.findIn K (.ref c_Table) "columns" = some (some (.ref f_Table_columns)))
    (i_Table_columns : PySem.W.isFn K (.ref f_Table_columns) = true)
    (l_Table_columns : K.lookup f_Table_columns = some ⟨oc3, od3, .func (PySem.W.fnOf "columns" "Table.columns" (defArgs s_Table_columns) (defBody s_Table_columns) (defScope s_Table_columns) .none kV3 dc3 pm3 an3 cd3 ct3), sl3⟩)
    (cc_Table_columns : PySem.W.codeIn K cd3 "Table.columns" = true)
    (kk_Table_columns : PySem.W.keepIn K (.ref f_Table_columns) = true)
    (q_Table_wanted : PySem.W.findIn K (.ref c_Table) "wanted" = some (some (.ref f_Table_wanted)))
    (i_Table_wanted : PySem.W.isFn K (.ref f_Table_wanted) = true)
    (l_Table_wanted : K.lookup f_Table_wanted = some ⟨oc4, od4, .func (PySem.W.fnOf "wanted" "Table.wanted" (defArgs s_Table_wanted) (defBody s_Table_wanted) (defScope s_Table_wanted) .none kV4 dc4 pm4 an4 cd4 ct4), sl4⟩)
    (cc_Table_wanted : PySem.W.codeIn K cd4 "Table.wanted" = true)
    (kk_Table_wanted : PySem.W.keepIn K (.ref f_Table_wanted) = true)
    (q_Table_extend : PySem.W.findIn K (.ref c_Table) "extend" = some (some (.ref f_Table_extend)))
    (i_Table_extend : PySem.W.isFn K (.ref f_Table_extend) = true)
    (l_Table_extend : K.lookup f_Table_extend = some ⟨oc5, od5, .func (PySem.W.fnOf "extend" "Table.extend" (defArgs s_Table_extend) (defBody s_Table_extend) (defScope s_Table_extend) .none kV5 dc5 pm5 an5 cd5 ct5), sl5⟩)
    (cc_Table_extend : PySem.W.codeIn K cd5 "Table.extend" = true)
    (kk_Table_extend : PySem.W.keepIn K (.ref f_Table_extend) = true)
    (q_Table_add_column : PySem.W.findIn K (.ref c_Table) "add_column" = some (some (.ref f_Table_add_column)))
    (i_Table_add_column : PySem.W.isFn K (.ref f_Table_add_column) = true)
    (l_Table_add_column : K.lookup f_Table_add_column = some ⟨oc6, od6, .func (PySem.W.fnOf "add_column" "Table.add_column" (defArgs s_Table_add_column) (defBody s_Table_add_column) (defScope s_Table_add_column) .none kV6 dc6 pm6 an6 cd6 ct6), sl6⟩)
    (cc_Table_add_column : PySem.W.codeIn K cd6 "Table.add_column" = true)
    (kk_Table_add_column : PySem.W.keepIn K (.ref f_Table_add_column) = true)
    (q_Table_mistake : PySem.W.findIn K (.ref c_Table) "mistake" = some (some (.ref f_Table_mistake)))
    (i_Table_mistake : PySem.W.isFn K (.ref f_Table_mistake) = true)
    (l_Table_mistake : K.lookup f_Table_mistake = some ⟨oc7, od7, .func (PySem.W.fnOf "mistake" "Table.mistake" (defArgs s_Table_mistake) (defBody s_Table_mistake) (defScope s_Table_mistake) .none kV7 dc7 pm7 an7 cd7 ct7), sl7⟩)
    (cc_Table_mistake : PySem.W.codeIn K cd7 "Table.mistake" = true)
    (kk_Table_mistake : PySem.W.keepIn K (.ref f_Table_mistake) = true)
    (q_Table_machine : PySem.W.findIn K (.ref c_Table) "machine" = some (some (.ref f_Table_machine)))
    (i_Table_machine : PySem.W.isFn K (.ref f_Table_machine) = true)
    (l_Table_machine : K.lookup f_Table_machine = some ⟨oc8, od8, .func (PySem.W.fnOf "machine" "Table.machine" (defArgs s_Table_machine) (defBody s_Table_machine) (defScope s_Table_machine) .none kV8 dc8 pm8 an8 (.ref tc8) ct8), sl8⟩)
    (cc_Table_machine : PySem.W.codeIn K (.ref tc8) "Table.machine" = true)
    (tk_Table_machine : K.lookup tc8 = some ⟨te8, td8, .fields tv8, ts8⟩)
    (tv_Table_machine : (tv8[11]? : Option Value) = some (.ref tp8))
    (tn_Table_machine : K.lookup tp8 = none)
    (th_Table_machine : PySem.W.codeHdIn K tc8 tp8 = true)
    (tq_Table_machine : tp8 = 138)
    (kk_Table_machine : PySem.W.keepIn K (.ref f_Table_machine) = true)
    (q_Table_rows : PySem.W.findIn K (.ref c_Table) "_rows" = some (some (.ref f_Table_rows)))
    (i_Table_rows : PySem.W.isFn K (.ref f_Table_rows) = true)
    (l_Table_rows : K.lookup f_Table_rows = some ⟨oc9, od9, .func (PySem.W.fnOf "_rows" "Table._rows" (defArgs s_Table_rows) (defBody s_Table_rows) (defScope s_Table_rows) .none kV9 dc9 pm9 an9 cd9 ct9), sl9⟩)
    (cc_Table_rows : PySem.W.codeIn K cd9 "Table._rows" = true)
    (kk_Table_rows : PySem.W.keepIn K (.ref f_Table_rows) = true)
    (q_Table_new_row : PySem.W.findIn K (.ref c_Table) "_new_row" = some (some (.ref f_Table_new_row)))
    (i_Table_new_row : PySem.W.isFn K (.ref f_Table_new_row) = true)
    (l_Table_new_row : K.lookup f_Table_new_row = some ⟨oc10, od10, .func (PySem.W.fnOf "_new_row" "Table._new_row" (defArgs s_Table_new_row) (defBody s_Table_new_row) (defScope s_Table_new_row) .none kV10 dc10 pm10 an10 cd10 ct10), sl10⟩)
    (cc_Table_new_row : PySem.W.codeIn K cd10 "Table._new_row" = true)
    (kk_Table_new_row : PySem.W.keepIn K (.ref f_Table_new_row) = true)
    (q_Table_outputs : PySem.W.findIn K (.ref c_Table) "_outputs" = some (some (.ref f_Table_outputs)))
    (i_Table_outputs : PySem.W.isFn K (.ref f_Table_outputs) = true)
    (l_Table_outputs : K.lookup f_Table_outputs = some ⟨oc11, od11, .func (PySem.W.fnOf "_outputs" "Table._outputs" (defArgs s_Table_outputs) (defBody s_Table_outputs) (defScope s_Table_outputs) .none kV11 dc11 pm11 an11 cd11 ct11), sl11⟩)
    (cc_Table_outputs : PySem.W.codeIn K cd11 "Table._outputs" = true)
    (kk_Table_outputs : PySem.W.keepIn K (.ref f_Table_outputs) = true)
    (q_law_cell : PySem.W.nsIn K mainGlobals "_law_cell" = some (some (.ref f_law_cell)))
    (l_law_cell : K.lookup f_law_cell = some ⟨oc12, od12, .func (PySem.W.fnOf "_law_cell" "_law_cell" (defArgs s_law_cell) (defBody s_law_cell) (defScope s_law_cell) .none kV12 dc12 pm12 an12 cd12 ct12), sl12⟩)
    (cc_law_cell : PySem.W.codeIn K cd12 "_law_cell" = true)
    (kk_law_cell : PySem.W.keepIn K (.ref f_law_cell) = true)
    (q_law_numbers : PySem.W.nsIn K mainGlobals "_law_numbers" = some (some (.ref f_law_numbers)))
    (l_law_numbers : K.lookup f_law_numbers = some ⟨oc13, od13, .func (PySem.W.fnOf "_law_numbers" "_law_numbers" (defArgs s_law_numbers) (defBody s_law_numbers) (defScope s_law_numbers) .none kV13 dc13 pm13 an13 cd13 ct13), sl13⟩)
    (cc_law_numbers : PySem.W.codeIn K cd13 "_law_numbers" = true)
    (kk_law_numbers : PySem.W.keepIn K (.ref f_law_numbers) = true)
    (q_law_machine : PySem.W.nsIn K mainGlobals "_law_machine" = some (some (.ref f_law_machine)))
    (l_law_machine : K.lookup f_law_machine = some ⟨oc14, od14, .func (PySem.W.fnOf "_law_machine" "_law_machine" (defArgs s_law_machine) (defBody s_law_machine) (defScope s_law_machine) .none kV14 dc14 pm14 an14 cd14 ct14), sl14⟩)
    (cc_law_machine : PySem.W.codeIn K cd14 "_law_machine" = true)
    (kk_law_machine : PySem.W.keepIn K (.ref f_law_machine) = true)
    (q_law_state : PySem.W.nsIn K mainGlobals "_law_state" = some (some (.ref f_law_state)))
    (l_law_state : K.lookup f_law_state = some ⟨oc15, od15, .func (PySem.W.fnOf "_law_state" "_law_state" (defArgs s_law_state) (defBody s_law_state) (defScope s_law_state) .none kV15 dc15 pm15 an15 cd15 ct15), sl15⟩)
    (cc_law_state : PySem.W.codeIn K cd15 "_law_state" = true)
    (kk_law_state : PySem.W.keepIn K (.ref f_law_state) = true)
    (q_law_output : PySem.W.nsIn K mainGlobals "_law_output" = some (some (.ref f_law_output)))
    (l_law_output : K.lookup f_law_output = some ⟨oc16, od16, .func (PySem.W.fnOf "_law_output" "_law_output" (defArgs s_law_output) (defBody s_law_output) (defScope s_law_output) .none kV16 dc16 pm16 an16 cd16 ct16), sl16⟩)
    (cc_law_output : PySem.W.codeIn K cd16 "_law_output" = true)
    (kk_law_output : PySem.W.keepIn K (.ref f_law_output) = true)
    (q_law_rows : PySem.W.nsIn K mainGlobals "_law_rows" = some (some (.ref f_law_rows)))
    (l_law_rows : K.lookup f_law_rows = some ⟨oc17, od17, .func (PySem.W.fnOf "_law_rows" "_law_rows" (defArgs s_law_rows) (defBody s_law_rows) (defScope s_law_rows) .none kV17 dc17 pm17 an17 cd17 ct17), sl17⟩)
    (cc_law_rows : PySem.W.codeIn K cd17 "_law_rows" = true)
    (kk_law_rows : PySem.W.keepIn K (.ref f_law_rows) = true)
    (q_law_wanted : PySem.W.nsIn K mainGlobals "_law_wanted" = some (some (.ref f_law_wanted)))
    (l_law_wanted : K.lookup f_law_wanted = some ⟨oc18, od18, .func (PySem.W.fnOf "_law_wanted" "_law_wanted" (defArgs s_law_wanted) (defBody s_law_wanted) (defScope s_law_wanted) .none kV18 dc18 pm18 an18 cd18 ct18), sl18⟩)
    (cc_law_wanted : PySem.W.codeIn K cd18 "_law_wanted" = true)
    (kk_law_wanted : PySem.W.keepIn K (.ref f_law_wanted) = true)
    (q_law_row : PySem.W.nsIn K mainGlobals "_law_row" = some (some (.ref f_law_row)))
    (l_law_row : K.lookup f_law_row = some ⟨oc19, od19, .func (PySem.W.fnOf "_law_row" "_law_row" (defArgs s_law_row) (defBody s_law_row) (defScope s_law_row) .none kV19 dc19 pm19 an19 cd19 ct19), sl19⟩)
    (cc_law_row : PySem.W.codeIn K cd19 "_law_row" = true)
    (kk_law_row : PySem.W.keepIn K (.ref f_law_row) = true)
    (q_law_made : PySem.W.nsIn K mainGlobals "_law_made" = some (some (.ref f_law_made)))
    (l_law_made : K.lookup f_law_made = some ⟨oc20, od20, .func (PySem.W.fnOf "_law_made" "_law_made" (defArgs s_law_made) (defBody s_law_made) (defScope s_law_made) .none kV20 dc20 pm20 an20 cd20 ct20), sl20⟩)
    (cc_law_made : PySem.W.codeIn K cd20 "_law_made" = true)
    (kk_law_made : PySem.W.keepIn K (.ref f_law_made) = true)
    (q_law_mistake : PySem.W.nsIn K mainGlobals "_law_mistake" = some (some (.ref f_law_mistake)))
    (l_law_mistake : K.lookup f_law_mistake = some ⟨oc21, od21, .func (PySem.W.fnOf "_law_mistake" "_law_mistake" (defArgs s_law_mistake) (defBody s_law_mistake) (defScope s_law_mistake) .none kV21 dc21 pm21 an21 cd21 ct21), sl21⟩)
    (cc_law_mistake : PySem.W.codeIn K cd21 "_law_mistake" = true)
    (kk_law_mistake : PySem.W.keepIn K (.ref f_law_mistake) = true)
    (q_law_machine_told : PySem.W.nsIn K mainGlobals "_law_machine_told" = some (some (.ref f_law_machine_told)))
    (l_law_machine_told : K.lookup f_law_machine_told = some ⟨oc22, od22, .func (PySem.W.fnOf "_law_machine_told" "_law_machine_told" (defArgs s_law_machine_told) (defBody s_law_machine_told) (defScope s_law_machine_told) .none kV22 dc22 pm22 an22 cd22 ct22), sl22⟩)
    (cc_law_machine_told : PySem.W.codeIn K cd22 "_law_machine_told" = true)
    (kk_law_machine_told : PySem.W.keepIn K (.ref f_law_machine_told) = true)
    (q_law_alike : PySem.W.nsIn K mainGlobals "_law_alike" = some (some (.ref f_law_alike)))
    (l_law_alike : K.lookup f_law_alike = some ⟨oc23, od23, .func (PySem.W.fnOf "_law_alike" "_law_alike" (defArgs s_law_alike) (defBody s_law_alike) (defScope s_law_alike) .none kV23 dc23 pm23 an23 cd23 ct23), sl23⟩)
    (cc_law_alike : PySem.W.codeIn K cd23 "_law_alike" = true)
    (kk_law_alike : PySem.W.keepIn K (.ref f_law_alike) = true)
    (q_law_filled : PySem.W.nsIn K mainGlobals "_law_filled" = some (some (.ref f_law_filled)))
    (l_law_filled : K.lookup f_law_filled = some ⟨oc24, od24, .func (PySem.W.fnOf "_law_filled" "_law_filled" (defArgs s_law_filled) (defBody s_law_filled) (defScope s_law_filled) .none kV24 dc24 pm24 an24 cd24 ct24), sl24⟩)
    (cc_law_filled : PySem.W.codeIn K cd24 "_law_filled" = true)
    (kk_law_filled : PySem.W.keepIn K (.ref f_law_filled) = true)
    (q_law_extended : PySem.W.nsIn K mainGlobals "_law_extended" = some (some (.ref f_law_extended)))
    (l_law_extended : K.lookup f_law_extended = some ⟨oc25, od25, .func (PySem.W.fnOf "_law_extended" "_law_extended" (defArgs s_law_extended) (defBody s_law_extended) (defScope s_law_extended) .none kV25 dc25 pm25 an25 cd25 ct25), sl25⟩)
    (cc_law_extended : PySem.W.codeIn K cd25 "_law_extended" = true)
    (kk_law_extended : PySem.W.keepIn K (.ref f_law_extended) = true)
    (q_law : PySem.W.nsIn K mainGlobals "law" = some (some (.ref f_law)))
    (l_law : K.lookup f_law = some ⟨oc26, od26, .func (PySem.W.fnOf "law" "law" (defArgs s_law) (defBody s_law) (defScope s_law) .none kV26 dc26 pm26 an26 cd26 ct26), sl26⟩)
    (cc_law : PySem.W.codeIn K cd26 "law" = true)
    (kk_law : PySem.W.keepIn K (.ref f_law) = true)
    (z_list : PySem.W.nsIn K mainGlobals "list" = some none)
    (z_len : PySem.W.nsIn K mainGlobals "len" = some none)
    (z_tuple : PySem.W.nsIn K mainGlobals "tuple" = some none)
    (z_range : PySem.W.nsIn K mainGlobals "range" = some none)
    (z_all : PySem.W.nsIn K mainGlobals "all" = some none)
    (z_int : PySem.W.nsIn K mainGlobals "int" = some none)
    (z_isinstance : PySem.W.nsIn K mainGlobals "isinstance" = some none)
    (z_max : PySem.W.nsIn K mainGlobals "max" = some none)
    (z_min : PySem.W.nsIn K mainGlobals "min" = some none) :
    ∃ (A : Ads) (c_Table_machine t_Table_machine : Addr), A.a_law = fa ∧ Txt K mg A ∧ (∀ (s : Shared) (v : Value), BindsTo s A.d_law ⟨[v], []⟩ [("script", v)]) ∧ A.d_Table_machine.code = .ref c_Table_machine ∧ PySem.W.codeHdIn K c_Table_machine t_Table_machine = true ∧ K.lookup t_Table_machine = none ∧ t_Table_machine = 138 := by
  have e := hfa.symm.trans (PySem.W.mg_of X G q_law)
  cases e
  refine ⟨{ a_MaieuticError := c_MaieuticError, a_NotAllowed := c_NotAllowed, a_Missing := c_Missing, a_Alike := c_Alike, a_Table := c_Table, a_walk := f_walk, d_walk := PySem.W.fnOf "walk" "walk" (defArgs s_walk) (defBody s_walk) (defScope s_walk) .none kV0 dc0 pm0 an0 cd0 ct0, a_Table_init := f_Table_init, d_Table_init := PySem.W.fnOf "__init__" "Table.__init__" (defArgs s_Table_init) (defBody s_Table_init) (defScope s_Table_init) .none kV1 dc1 pm1 an1 cd1 ct1, a_Table_state_words := f_Table_state_words, d_Table_state_words := PySem.W.fnOf "state_words" "Table.state_words" (defArgs s_Table_state_words) (defBody s_Table_state_words) (defScope s_Table_state_words) .none kV2 dc2 pm2 an2 cd2 ct2, a_Table_columns := f_Table_columns, d_Table_columns := PySem.W.fnOf "columns" "Table.columns" (defArgs s_Table_columns) (defBody s_Table_columns) (defScope s_Table_columns) .none kV3 dc3 pm3 an3 cd3 ct3, a_Table_wanted := f_Table_wanted, d_Table_wanted := PySem.W.fnOf "wanted" "Table.wanted" (defArgs s_Table_wanted) (defBody s_Table_wanted) (defScope s_Table_wanted) .none kV4 dc4 pm4 an4 cd4 ct4, a_Table_extend := f_Table_extend, d_Table_extend := PySem.W.fnOf "extend" "Table.extend" (defArgs s_Table_extend) (defBody s_Table_extend) (defScope s_Table_extend) .none kV5 dc5 pm5 an5 cd5 ct5, a_Table_add_column := f_Table_add_column, d_Table_add_column := PySem.W.fnOf "add_column" "Table.add_column" (defArgs s_Table_add_column) (defBody s_Table_add_column) (defScope s_Table_add_column) .none kV6 dc6 pm6 an6 cd6 ct6, a_Table_mistake := f_Table_mistake, d_Table_mistake := PySem.W.fnOf "mistake" "Table.mistake" (defArgs s_Table_mistake) (defBody s_Table_mistake) (defScope s_Table_mistake) .none kV7 dc7 pm7 an7 cd7 ct7, a_Table_machine := f_Table_machine, d_Table_machine := PySem.W.fnOf "machine" "Table.machine" (defArgs s_Table_machine) (defBody s_Table_machine) (defScope s_Table_machine) .none kV8 dc8 pm8 an8 (.ref tc8) ct8, a_Table_rows := f_Table_rows, d_Table_rows := PySem.W.fnOf "_rows" "Table._rows" (defArgs s_Table_rows) (defBody s_Table_rows) (defScope s_Table_rows) .none kV9 dc9 pm9 an9 cd9 ct9, a_Table_new_row := f_Table_new_row, d_Table_new_row := PySem.W.fnOf "_new_row" "Table._new_row" (defArgs s_Table_new_row) (defBody s_Table_new_row) (defScope s_Table_new_row) .none kV10 dc10 pm10 an10 cd10 ct10, a_Table_outputs := f_Table_outputs, d_Table_outputs := PySem.W.fnOf "_outputs" "Table._outputs" (defArgs s_Table_outputs) (defBody s_Table_outputs) (defScope s_Table_outputs) .none kV11 dc11 pm11 an11 cd11 ct11, a_law_cell := f_law_cell, d_law_cell := PySem.W.fnOf "_law_cell" "_law_cell" (defArgs s_law_cell) (defBody s_law_cell) (defScope s_law_cell) .none kV12 dc12 pm12 an12 cd12 ct12, a_law_numbers := f_law_numbers, d_law_numbers := PySem.W.fnOf "_law_numbers" "_law_numbers" (defArgs s_law_numbers) (defBody s_law_numbers) (defScope s_law_numbers) .none kV13 dc13 pm13 an13 cd13 ct13, a_law_machine := f_law_machine, d_law_machine := PySem.W.fnOf "_law_machine" "_law_machine" (defArgs s_law_machine) (defBody s_law_machine) (defScope s_law_machine) .none kV14 dc14 pm14 an14 cd14 ct14, a_law_state := f_law_state, d_law_state := PySem.W.fnOf "_law_state" "_law_state" (defArgs s_law_state) (defBody s_law_state) (defScope s_law_state) .none kV15 dc15 pm15 an15 cd15 ct15, a_law_output := f_law_output, d_law_output := PySem.W.fnOf "_law_output" "_law_output" (defArgs s_law_output) (defBody s_law_output) (defScope s_law_output) .none kV16 dc16 pm16 an16 cd16 ct16, a_law_rows := f_law_rows, d_law_rows := PySem.W.fnOf "_law_rows" "_law_rows" (defArgs s_law_rows) (defBody s_law_rows) (defScope s_law_rows) .none kV17 dc17 pm17 an17 cd17 ct17, a_law_wanted := f_law_wanted, d_law_wanted := PySem.W.fnOf "_law_wanted" "_law_wanted" (defArgs s_law_wanted) (defBody s_law_wanted) (defScope s_law_wanted) .none kV18 dc18 pm18 an18 cd18 ct18, a_law_row := f_law_row, d_law_row := PySem.W.fnOf "_law_row" "_law_row" (defArgs s_law_row) (defBody s_law_row) (defScope s_law_row) .none kV19 dc19 pm19 an19 cd19 ct19, a_law_made := f_law_made, d_law_made := PySem.W.fnOf "_law_made" "_law_made" (defArgs s_law_made) (defBody s_law_made) (defScope s_law_made) .none kV20 dc20 pm20 an20 cd20 ct20, a_law_mistake := f_law_mistake, d_law_mistake := PySem.W.fnOf "_law_mistake" "_law_mistake" (defArgs s_law_mistake) (defBody s_law_mistake) (defScope s_law_mistake) .none kV21 dc21 pm21 an21 cd21 ct21, a_law_machine_told := f_law_machine_told, d_law_machine_told := PySem.W.fnOf "_law_machine_told" "_law_machine_told" (defArgs s_law_machine_told) (defBody s_law_machine_told) (defScope s_law_machine_told) .none kV22 dc22 pm22 an22 cd22 ct22, a_law_alike := f_law_alike, d_law_alike := PySem.W.fnOf "_law_alike" "_law_alike" (defArgs s_law_alike) (defBody s_law_alike) (defScope s_law_alike) .none kV23 dc23 pm23 an23 cd23 ct23, a_law_filled := f_law_filled, d_law_filled := PySem.W.fnOf "_law_filled" "_law_filled" (defArgs s_law_filled) (defBody s_law_filled) (defScope s_law_filled) .none kV24 dc24 pm24 an24 cd24 ct24, a_law_extended := f_law_extended, d_law_extended := PySem.W.fnOf "_law_extended" "_law_extended" (defArgs s_law_extended) (defBody s_law_extended) (defScope s_law_extended) .none kV25 dc25 pm25 an25 cd25 ct25, a_law := fa, d_law := PySem.W.fnOf "law" "law" (defArgs s_law) (defBody s_law) (defScope s_law) .none kV26 dc26 pm26 an26 cd26 ct26 }, tc8, tp8, rfl, ?_, fun s v => .of_eq rfl, rfl, th_Table_machine, tn_Table_machine, tq_Table_machine⟩
  exact {
    g_MaieuticError := PySem.W.mg_of X G r_MaieuticError,
    x_MaieuticError := rx_MaieuticError,
    k_MaieuticError := rk_MaieuticError,
    sb_MaieuticError := rb_MaieuticError,
    ty_MaieuticError := rt_MaieuticError,
    E_MaieuticError := ⟨rga_MaieuticError, rgg_MaieuticError, rb_MaieuticError, rh_MaieuticError, rc_MaieuticError, ra1, ra2, rm_MaieuticError⟩,
    g_NotAllowed := PySem.W.mg_of X G r_NotAllowed,
    x_NotAllowed := rx_NotAllowed,
    k_NotAllowed := rk_NotAllowed,
    sb_NotAllowed := rb_NotAllowed,
    ty_NotAllowed := rt_NotAllowed,
    E_NotAllowed := ⟨rga_NotAllowed, rgg_NotAllowed, rb_NotAllowed, rh_NotAllowed, rc_NotAllowed, ra1, ra2, rm_NotAllowed⟩,
    g_Missing := PySem.W.mg_of X G r_Missing,
    x_Missing := rx_Missing,
    k_Missing := rk_Missing,
    sb_Missing := rb_Missing,
    ty_Missing := rt_Missing,
    E_Missing := ⟨rga_Missing, rgg_Missing, rb_Missing, rh_Missing, rc_Missing, ra1, ra2, rm_Missing⟩,
    g_Alike := PySem.W.mg_of X G r_Alike,
    x_Alike := rx_Alike,
    k_Alike := rk_Alike,
    sb_Alike := rb_Alike,
    ty_Alike := rt_Alike,
    E_Alike := ⟨rga_Alike, rgg_Alike, rb_Alike, rh_Alike, rc_Alike, ra1, ra2, rm_Alike⟩,
    g_Table := PySem.W.mg_of X G r_Table,
    cl_Table := ⟨rpg_Table, rhd_Table, rpo_Table, rsa_Table⟩,
    mk_Table := ⟨rmk_Table, q_Table_init, i_Table_init, rkc_Table⟩,
    nA_Table_letters := rn_Table_letters,
    nA_Table_states := rn_Table_states,
    nA_Table_tails := rn_Table_tails,
    su_MaieuticError_MaieuticError := rsu_MaieuticError_MaieuticError,
    su_MaieuticError_NotAllowed := rsu_MaieuticError_NotAllowed,
    su_MaieuticError_Missing := rsu_MaieuticError_Missing,
    su_MaieuticError_Alike := rsu_MaieuticError_Alike,
    su_NotAllowed_MaieuticError := rsu_NotAllowed_MaieuticError,
    su_NotAllowed_NotAllowed := rsu_NotAllowed_NotAllowed,
    su_NotAllowed_Missing := rsu_NotAllowed_Missing,
    su_NotAllowed_Alike := rsu_NotAllowed_Alike,
    su_Missing_MaieuticError := rsu_Missing_MaieuticError,
    su_Missing_NotAllowed := rsu_Missing_NotAllowed,
    su_Missing_Missing := rsu_Missing_Missing,
    su_Missing_Alike := rsu_Missing_Alike,
    su_Alike_MaieuticError := rsu_Alike_MaieuticError,
    su_Alike_NotAllowed := rsu_Alike_NotAllowed,
    su_Alike_Missing := rsu_Alike_Missing,
    su_Alike_Alike := rsu_Alike_Alike,
    F_walk := fun_mk (st := s_walk) l_walk cc_walk kk_walk,
    b_walk := (fun_mk (st := s_walk) l_walk cc_walk kk_walk).binds (ps := ["machine", "state", "word"]) fun _ _ _ _ _ _ us hl => match us, hl with | [_, _, _], _ => rfl,
    g_walk := PySem.W.mg_of X G q_walk,
    F_Table_init := fun_mk (st := s_Table_init) l_Table_init cc_Table_init kk_Table_init,
    b_Table_init := (fun_mk (st := s_Table_init) l_Table_init cc_Table_init kk_Table_init).binds (ps := ["self", "letters"]) fun _ _ _ _ _ _ us hl => match us, hl with | [_, _], _ => rfl,
    m_Table_init := ⟨q_Table_init, i_Table_init, kk_Table_init⟩,
    F_Table_state_words := fun_mk (st := s_Table_state_words) l_Table_state_words cc_Table_state_words kk_Table_state_words,
    b_Table_state_words := (fun_mk (st := s_Table_state_words) l_Table_state_words cc_Table_state_words kk_Table_state_words).binds (ps := ["self"]) fun _ _ _ _ _ _ us hl => match us, hl with | [_], _ => rfl,
    m_Table_state_words := ⟨q_Table_state_words, i_Table_state_words, kk_Table_state_words⟩,
    F_Table_columns := fun_mk (st := s_Table_columns) l_Table_columns cc_Table_columns kk_Table_columns,
    b_Table_columns := (fun_mk (st := s_Table_columns) l_Table_columns cc_Table_columns kk_Table_columns).binds (ps := ["self"]) fun _ _ _ _ _ _ us hl => match us, hl with | [_], _ => rfl,
    m_Table_columns := ⟨q_Table_columns, i_Table_columns, kk_Table_columns⟩,
    F_Table_wanted := fun_mk (st := s_Table_wanted) l_Table_wanted cc_Table_wanted kk_Table_wanted,
    b_Table_wanted := (fun_mk (st := s_Table_wanted) l_Table_wanted cc_Table_wanted kk_Table_wanted).binds (ps := ["self", "known"]) fun _ _ _ _ _ _ us hl => match us, hl with | [_, _], _ => rfl,
    m_Table_wanted := ⟨q_Table_wanted, i_Table_wanted, kk_Table_wanted⟩,
    F_Table_extend := fun_mk (st := s_Table_extend) l_Table_extend cc_Table_extend kk_Table_extend,
    b_Table_extend := (fun_mk (st := s_Table_extend) l_Table_extend cc_Table_extend kk_Table_extend).binds (ps := ["self", "known"]) fun _ _ _ _ _ _ us hl => match us, hl with | [_, _], _ => rfl,
    m_Table_extend := ⟨q_Table_extend, i_Table_extend, kk_Table_extend⟩,
    F_Table_add_column := fun_mk (st := s_Table_add_column) l_Table_add_column cc_Table_add_column kk_Table_add_column,
    b_Table_add_column := (fun_mk (st := s_Table_add_column) l_Table_add_column cc_Table_add_column kk_Table_add_column).binds (ps := ["self", "word"]) fun _ _ _ _ _ _ us hl => match us, hl with | [_, _], _ => rfl,
    m_Table_add_column := ⟨q_Table_add_column, i_Table_add_column, kk_Table_add_column⟩,
    F_Table_mistake := fun_mk (st := s_Table_mistake) l_Table_mistake cc_Table_mistake kk_Table_mistake,
    b_Table_mistake := (fun_mk (st := s_Table_mistake) l_Table_mistake cc_Table_mistake kk_Table_mistake).binds (ps := ["self", "outs", "known"]) fun _ _ _ _ _ _ us hl => match us, hl with | [_, _, _], _ => rfl,
    m_Table_mistake := ⟨q_Table_mistake, i_Table_mistake, kk_Table_mistake⟩,
    F_Table_machine := fun_mk (st := s_Table_machine) l_Table_machine cc_Table_machine kk_Table_machine,
    b_Table_machine := (fun_mk (st := s_Table_machine) l_Table_machine cc_Table_machine kk_Table_machine).binds (ps := ["self", "outs", "known"]) fun _ _ _ _ _ _ us hl => match us, hl with | [_, _, _], _ => rfl,
    m_Table_machine := ⟨q_Table_machine, i_Table_machine, kk_Table_machine⟩,
    F_Table_rows := fun_mk (st := s_Table_rows) l_Table_rows cc_Table_rows kk_Table_rows,
    b_Table_rows := (fun_mk (st := s_Table_rows) l_Table_rows cc_Table_rows kk_Table_rows).binds (ps := ["self"]) fun _ _ _ _ _ _ us hl => match us, hl with | [_], _ => rfl,
    m_Table_rows := ⟨q_Table_rows, i_Table_rows, kk_Table_rows⟩,
    F_Table_new_row := fun_mk (st := s_Table_new_row) l_Table_new_row cc_Table_new_row kk_Table_new_row,
    b_Table_new_row := (fun_mk (st := s_Table_new_row) l_Table_new_row cc_Table_new_row kk_Table_new_row).binds (ps := ["self", "known"]) fun _ _ _ _ _ _ us hl => match us, hl with | [_, _], _ => rfl,
    m_Table_new_row := ⟨q_Table_new_row, i_Table_new_row, kk_Table_new_row⟩,
    F_Table_outputs := fun_mk (st := s_Table_outputs) l_Table_outputs cc_Table_outputs kk_Table_outputs,
    b_Table_outputs := (fun_mk (st := s_Table_outputs) l_Table_outputs cc_Table_outputs kk_Table_outputs).binds (ps := ["self", "row", "known"]) fun _ _ _ _ _ _ us hl => match us, hl with | [_, _, _], _ => rfl,
    m_Table_outputs := ⟨q_Table_outputs, i_Table_outputs, kk_Table_outputs⟩,
    F_law_cell := fun_mk (st := s_law_cell) l_law_cell cc_law_cell kk_law_cell,
    b_law_cell := (fun_mk (st := s_law_cell) l_law_cell cc_law_cell kk_law_cell).binds (ps := ["script", "k"]) fun _ _ _ _ _ _ us hl => match us, hl with | [_, _], _ => rfl,
    g_law_cell := PySem.W.mg_of X G q_law_cell,
    F_law_numbers := fun_mk (st := s_law_numbers) l_law_numbers cc_law_numbers kk_law_numbers,
    b_law_numbers := (fun_mk (st := s_law_numbers) l_law_numbers cc_law_numbers kk_law_numbers).binds (ps := ["cell", "k", "many"]) fun _ _ _ _ _ _ us hl => match us, hl with | [_, _, _], _ => rfl,
    g_law_numbers := PySem.W.mg_of X G q_law_numbers,
    F_law_machine := fun_mk (st := s_law_machine) l_law_machine cc_law_machine kk_law_machine,
    b_law_machine := (fun_mk (st := s_law_machine) l_law_machine cc_law_machine kk_law_machine).binds (ps := ["numbers", "letters", "outs", "states"]) fun _ _ _ _ _ _ us hl => match us, hl with | [_, _, _, _], _ => rfl,
    g_law_machine := PySem.W.mg_of X G q_law_machine,
    F_law_state := fun_mk (st := s_law_state) l_law_state cc_law_state kk_law_state,
    b_law_state := (fun_mk (st := s_law_state) l_law_state cc_law_state kk_law_state).binds (ps := ["machine", "word"]) fun _ _ _ _ _ _ us hl => match us, hl with | [_, _], _ => rfl,
    g_law_state := PySem.W.mg_of X G q_law_state,
    F_law_output := fun_mk (st := s_law_output) l_law_output cc_law_output kk_law_output,
    b_law_output := (fun_mk (st := s_law_output) l_law_output cc_law_output kk_law_output).binds (ps := ["machine", "word"]) fun _ _ _ _ _ _ us hl => match us, hl with | [_, _], _ => rfl,
    g_law_output := PySem.W.mg_of X G q_law_output,
    F_law_rows := fun_mk (st := s_law_rows) l_law_rows cc_law_rows kk_law_rows,
    b_law_rows := (fun_mk (st := s_law_rows) l_law_rows cc_law_rows kk_law_rows).binds (ps := ["states", "letters"]) fun _ _ _ _ _ _ us hl => match us, hl with | [_, _], _ => rfl,
    g_law_rows := PySem.W.mg_of X G q_law_rows,
    F_law_wanted := fun_mk (st := s_law_wanted) l_law_wanted cc_law_wanted kk_law_wanted,
    b_law_wanted := (fun_mk (st := s_law_wanted) l_law_wanted cc_law_wanted kk_law_wanted).binds (ps := ["states", "columns", "letters", "known"]) fun _ _ _ _ _ _ us hl => match us, hl with | [_, _, _, _], _ => rfl,
    g_law_wanted := PySem.W.mg_of X G q_law_wanted,
    F_law_row := fun_mk (st := s_law_row) l_law_row cc_law_row kk_law_row,
    b_law_row := (fun_mk (st := s_law_row) l_law_row cc_law_row kk_law_row).binds (ps := ["machine", "word", "columns"]) fun _ _ _ _ _ _ us hl => match us, hl with | [_, _, _], _ => rfl,
    g_law_row := PySem.W.mg_of X G q_law_row,
    F_law_made := fun_mk (st := s_law_made) l_law_made cc_law_made kk_law_made,
    b_law_made := (fun_mk (st := s_law_made) l_law_made cc_law_made kk_law_made).binds (ps := ["machine", "states", "columns"]) fun _ _ _ _ _ _ us hl => match us, hl with | [_, _, _], _ => rfl,
    g_law_made := PySem.W.mg_of X G q_law_made,
    F_law_mistake := fun_mk (st := s_law_mistake) l_law_mistake cc_law_mistake kk_law_mistake,
    b_law_mistake := (fun_mk (st := s_law_mistake) l_law_mistake cc_law_mistake kk_law_mistake).binds (ps := ["machine", "made", "states", "columns"]) fun _ _ _ _ _ _ us hl => match us, hl with | [_, _, _, _], _ => rfl,
    g_law_mistake := PySem.W.mg_of X G q_law_mistake,
    F_law_machine_told := fun_mk (st := s_law_machine_told) l_law_machine_told cc_law_machine_told kk_law_machine_told,
    b_law_machine_told := (fun_mk (st := s_law_machine_told) l_law_machine_told cc_law_machine_told kk_law_machine_told).binds (ps := ["table", "outs", "known"]) fun _ _ _ _ _ _ us hl => match us, hl with | [_, _, _], _ => rfl,
    g_law_machine_told := PySem.W.mg_of X G q_law_machine_told,
    F_law_alike := fun_mk (st := s_law_alike) l_law_alike cc_law_alike kk_law_alike,
    b_law_alike := (fun_mk (st := s_law_alike) l_law_alike cc_law_alike kk_law_alike).binds (ps := ["table", "column"]) fun _ _ _ _ _ _ us hl => match us, hl with | [_, _], _ => rfl,
    g_law_alike := PySem.W.mg_of X G q_law_alike,
    F_law_filled := fun_mk (st := s_law_filled) l_law_filled cc_law_filled kk_law_filled,
    b_law_filled := (fun_mk (st := s_law_filled) l_law_filled cc_law_filled kk_law_filled).binds (ps := ["table", "machine", "states", "columns", "known"]) fun _ _ _ _ _ _ us hl => match us, hl with | [_, _, _, _, _], _ => rfl,
    g_law_filled := PySem.W.mg_of X G q_law_filled,
    F_law_extended := fun_mk (st := s_law_extended) l_law_extended cc_law_extended kk_law_extended,
    b_law_extended := (fun_mk (st := s_law_extended) l_law_extended cc_law_extended kk_law_extended).binds (ps := ["table", "machine", "states", "columns", "known"]) fun _ _ _ _ _ _ us hl => match us, hl with | [_, _, _, _, _], _ => rfl,
    g_law_extended := PySem.W.mg_of X G q_law_extended,
    F_law := fun_mk (st := s_law) l_law cc_law kk_law,
    b_law := (fun_mk (st := s_law) l_law cc_law kk_law).binds (ps := ["script"]) fun _ _ _ _ _ _ us hl => match us, hl with | [_], _ => rfl,
    g_law := PySem.W.mg_of X G q_law,
    n_list := PySem.W.mg_none_of X G z_list,
    n_len := PySem.W.mg_none_of X G z_len,
    n_tuple := PySem.W.mg_none_of X G z_tuple,
    n_range := PySem.W.mg_none_of X G z_range,
    n_all := PySem.W.mg_none_of X G z_all,
    n_int := PySem.W.mg_none_of X G z_int,
    n_isinstance := PySem.W.mg_none_of X G z_isinstance,
    n_max := PySem.W.mg_none_of X G z_max,
    n_min := PySem.W.mg_none_of X G z_min }
theorem walk {l : PySem.W.OpenLaw} {q : Program} {loose : List Str} {XP : (Str → Option Value) → Heap → Prop} {YP : World → Heap → Prop} {d : DefRec} {K : Params → PySem.W.Frag} {tp : Addr} (hn : l.most = some 63) (hdf : d.params.defaults = [])
    (hY : ∀ (w : World) (h : Heap), YP w h → (K w.params).In h) (hT : ∀ (w : World) (h : Heap), YP w h → ∀ P ∈ [tp], h.get? P = some (PySem.W.tabObj #[]))
    (F : ∀ (w : World) (mg : Str → Option Value) (fa : Addr) (h : Heap), (K w.params).In h → h.Ns mainGlobals mg → mg d.name = some (.ref fa) →
      ∃ (A : Ads) (c Pt : Addr), A.a_law = fa ∧ Txt (K w.params) mg A ∧ (∀ (s : Shared) (v : Value), BindsTo s A.d_law ⟨[v], []⟩ [("script", v)]) ∧ A.d_Table_machine.code = .ref c ∧ PySem.W.codeHdIn (K w.params) c Pt = true ∧ (K w.params).lookup Pt = none ∧ Pt = tp) :
    PySem.W.WalkO q loose XP YP l.row.toRowW d [] (fun f vs => PySem.call f vs) := by
  refine Att.attach_callB hn hdf fun w s₀ s₁ mg mb fa o pm cd doc a vs ns G Y ho hd hcd hmg hobj hints hlen hbits hg => ?_
  have KX := hY w _ Y
  obtain ⟨A, c, Pt, rfl, T, hb, hc, ht, hnP, ePt⟩ := F w mg fa _ KX G.T.g hmg
  have C := PySem.W.codeHd_of_K KX ht
  have hP := hT w _ Y Pt (List.mem_singleton.mpr ePt)
  refine LamX.law_callTs (CX := CX0) (k := 8) (cs := [(c, Pt)]) (fd := A.d_law) (x := "script") (sp := spLaw (K w.params) Pt) KX G.T.g G.T.b G.T.builtins G.T.nolimit hg (fun p hp => ?_) (fun p hp => ?_) (fun p hp => ?_) G.T.bmain hobj hints (Nat.le_trans hlen (by decide)) ⟨rfl, by decide, by decide⟩
    (fun base _ _ hT => ok_law T ⟨(hT _ List.mem_cons_self).code, (hT _ List.mem_cons_self).bm, (hT _ List.mem_cons_self).gP⟩ hc) hb (fun H hH hS => ⟨a, ns, rfl, hS, hlen, ⟨#[], hH _ List.mem_cons_self, ?_⟩, fun _ => rfl⟩) fun _ _ _ z => z
  · cases List.mem_singleton.mp hp
    exact hP
  · cases List.mem_singleton.mp hp
    exact hnP
  · cases List.mem_singleton.mp hp
    exact C
  · first | exact .nil | trivial | exact PySem.W.triplesOk_nil | exact fun _ h => absurd h (by simp)
end K11

set_option Elab.async false
local macro_rules | `(tactic| o_head ($f:term $K $a $e)) => `(tactic| o_head (PySem.W.kmHook $K $a $e [138]))
open PySem PySem.W PyProof.Rows in
set_option maxRecDepth 100000 in
set_option maxHeartbeats 0 in
theorem PySem.Challenge.cw_maieutic_k11_tables_holds : PySem.Challenge.rw_maieutic_k11_tables.Holds := by
  w_on; o_law; k_head; (case hw => w_witness2)
  k_fill
  refine K11.walk (l := PySem.Challenge.rw_maieutic_k11_tables) rfl rfl (fun w h Y => PySem.W.km_in_of Y) (fun w h Y => PySem.W.km_tabs_of Y) ?F
  case F =>
    intro w mg fa h KX G hmg
    refine' K11.all_mk KX G hmg ?r_MaieuticError ?rx_MaieuticError ?rk_MaieuticError ?rb_MaieuticError ?rt_MaieuticError ?rga_MaieuticError ?rgg_MaieuticError ?rh_MaieuticError ?rc_MaieuticError ?rm_MaieuticError ?r_NotAllowed ?rx_NotAllowed ?rk_NotAllowed ?rb_NotAllowed ?rt_NotAllowed ?rga_NotAllowed ?rgg_NotAllowed ?rh_NotAllowed ?rc_NotAllowed ?rm_NotAllowed ?r_Missing ?rx_Missing ?rk_Missing ?rb_Missing ?rt_Missing ?rga_Missing ?rgg_Missing ?rh_Missing ?rc_Missing ?rm_Missing ?r_Alike ?rx_Alike ?rk_Alike ?rb_Alike ?rt_Alike ?rga_Alike ?rgg_Alike ?rh_Alike ?rc_Alike ?rm_Alike ?r_Table ?rpg_Table ?rhd_Table ?rpo_Table ?rsa_Table ?rmk_Table ?rkc_Table ?rn_Table_letters ?rn_Table_states ?rn_Table_tails ?ra1 ?ra2 ?rsu_MaieuticError_MaieuticError ?rsu_MaieuticError_NotAllowed ?rsu_MaieuticError_Missing ?rsu_MaieuticError_Alike ?rsu_NotAllowed_MaieuticError ?rsu_NotAllowed_NotAllowed ?rsu_NotAllowed_Missing ?rsu_NotAllowed_Alike ?rsu_Missing_MaieuticError ?rsu_Missing_NotAllowed ?rsu_Missing_Missing ?rsu_Missing_Alike ?rsu_Alike_MaieuticError ?rsu_Alike_NotAllowed ?rsu_Alike_Missing ?rsu_Alike_Alike ?q_walk ?l_walk ?cc_walk ?kk_walk ?q_Table_init ?i_Table_init ?l_Table_init ?cc_Table_init ?kk_Table_init ?q_Table_state_words ?i_Table_state_words ?l_Table_state_words ?cc_Table_state_words ?kk_Table_state_words ?q_Table_columns ?i_Table_columns ?l_Table_columns ?cc_Table_columns ?kk_Table_columns ?q_Table_wanted ?i_Table_wanted ?l_Table_wanted ?cc_Table_wanted ?kk_Table_wanted ?q_Table_extend ?i_Table_extend ?l_Table_extend ?cc_Table_extend ?kk_Table_extend ?q_Table_add_column ?i_Table_add_column ?l_Table_add_column ?cc_Table_add_column ?kk_Table_add_column ?q_Table_mistake ?i_Table_mistake ?l_Table_mistake ?cc_Table_mistake ?kk_Table_mistake ?q_Table_machine ?i_Table_machine ?l_Table_machine ?cc_Table_machine ?tk_Table_machine ?tv_Table_machine ?tn_Table_machine ?th_Table_machine ?tq_Table_machine ?kk_Table_machine ?q_Table_rows ?i_Table_rows ?l_Table_rows ?cc_Table_rows ?kk_Table_rows ?q_Table_new_row ?i_Table_new_row ?l_Table_new_row ?cc_Table_new_row ?kk_Table_new_row ?q_Table_outputs ?i_Table_outputs ?l_Table_outputs ?cc_Table_outputs ?kk_Table_outputs ?q_law_cell ?l_law_cell ?cc_law_cell ?kk_law_cell ?q_law_numbers ?l_law_numbers ?cc_law_numbers ?kk_law_numbers ?q_law_machine ?l_law_machine ?cc_law_machine ?kk_law_machine ?q_law_state ?l_law_state ?cc_law_state ?kk_law_state ?q_law_output ?l_law_output ?cc_law_output ?kk_law_output ?q_law_rows ?l_law_rows ?cc_law_rows ?kk_law_rows ?q_law_wanted ?l_law_wanted ?cc_law_wanted ?kk_law_wanted ?q_law_row ?l_law_row ?cc_law_row ?kk_law_row ?q_law_made ?l_law_made ?cc_law_made ?kk_law_made ?q_law_mistake ?l_law_mistake ?cc_law_mistake ?kk_law_mistake ?q_law_machine_told ?l_law_machine_told ?cc_law_machine_told ?kk_law_machine_told ?q_law_alike ?l_law_alike ?cc_law_alike ?kk_law_alike ?q_law_filled ?l_law_filled ?cc_law_filled ?kk_law_filled ?q_law_extended ?l_law_extended ?cc_law_extended ?kk_law_extended ?q_law ?l_law ?cc_law ?kk_law ?z_list ?z_len ?z_tuple ?z_range ?z_all ?z_int ?z_isinstance ?z_max ?z_min
    (case r_MaieuticError => k_is)
    (case rx_MaieuticError => first | k_exc | k_is)
    (case rk_MaieuticError => k_is)
    (case rb_MaieuticError => k_is)
    (case rt_MaieuticError => k_is)
    (case rga_MaieuticError => k_is)
    (case rgg_MaieuticError => k_is)
    (case rh_MaieuticError => k_is)
    (case rc_MaieuticError => k_is)
    (case rm_MaieuticError => k_is)
    (case r_NotAllowed => k_is)
    (case rx_NotAllowed => first | k_exc | k_is)
    (case rk_NotAllowed => k_is)
    (case rb_NotAllowed => k_is)
    (case rt_NotAllowed => k_is)
    (case rga_NotAllowed => k_is)
    (case rgg_NotAllowed => k_is)
    (case rh_NotAllowed => k_is)
    (case rc_NotAllowed => k_is)
    (case rm_NotAllowed => k_is)
    (case r_Missing => k_is)
    (case rx_Missing => first | k_exc | k_is)
    (case rk_Missing => k_is)
    (case rb_Missing => k_is)
    (case rt_Missing => k_is)
    (case rga_Missing => k_is)
    (case rgg_Missing => k_is)
    (case rh_Missing => k_is)
    (case rc_Missing => k_is)
    (case rm_Missing => k_is)
    (case r_Alike => k_is)
    (case rx_Alike => first | k_exc | k_is)
    (case rk_Alike => k_is)
    (case rb_Alike => k_is)
    (case rt_Alike => k_is)
    (case rga_Alike => k_is)
    (case rgg_Alike => k_is)
    (case rh_Alike => k_is)
    (case rc_Alike => k_is)
    (case rm_Alike => k_is)
    (case r_Table => k_is)
    (case rpg_Table => k_is)
    (case rhd_Table => k_is)
    (case rpo_Table => k_is)
    (case rsa_Table => k_is)
    (case rmk_Table => k_is)
    (case rkc_Table => k_is)
    (case rn_Table_letters => k_is)
    (case rn_Table_states => k_is)
    (case rn_Table_tails => k_is)
    (case ra1 => k_is)
    (case ra2 => k_is)
    (case rsu_MaieuticError_MaieuticError => k_is)
    (case rsu_MaieuticError_NotAllowed => k_is)
    (case rsu_MaieuticError_Missing => k_is)
    (case rsu_MaieuticError_Alike => k_is)
    (case rsu_NotAllowed_MaieuticError => k_is)
    (case rsu_NotAllowed_NotAllowed => k_is)
    (case rsu_NotAllowed_Missing => k_is)
    (case rsu_NotAllowed_Alike => k_is)
    (case rsu_Missing_MaieuticError => k_is)
    (case rsu_Missing_NotAllowed => k_is)
    (case rsu_Missing_Missing => k_is)
    (case rsu_Missing_Alike => k_is)
    (case rsu_Alike_MaieuticError => k_is)
    (case rsu_Alike_NotAllowed => k_is)
    (case rsu_Alike_Missing => k_is)
    (case rsu_Alike_Alike => k_is)
    (case q_walk => k_is)
    (case l_walk => k_is)
    (case cc_walk => k_is)
    (case kk_walk => k_is)
    (case q_Table_init => k_is)
    (case i_Table_init => k_is)
    (case l_Table_init => k_is)
    (case cc_Table_init => k_is)
    (case kk_Table_init => k_is)
    (case q_Table_state_words => k_is)
    (case i_Table_state_words => k_is)
    (case l_Table_state_words => k_is)
    (case cc_Table_state_words => k_is)
    (case kk_Table_state_words => k_is)
    (case q_Table_columns => k_is)
    (case i_Table_columns => k_is)
    (case l_Table_columns => k_is)
    (case cc_Table_columns => k_is)
    (case kk_Table_columns => k_is)
    (case q_Table_wanted => k_is)
    (case i_Table_wanted => k_is)
    (case l_Table_wanted => k_is)
    (case cc_Table_wanted => k_is)
    (case kk_Table_wanted => k_is)
    (case q_Table_extend => k_is)
    (case i_Table_extend => k_is)
    (case l_Table_extend => k_is)
    (case cc_Table_extend => k_is)
    (case kk_Table_extend => k_is)
    (case q_Table_add_column => k_is)
    (case i_Table_add_column => k_is)
    (case l_Table_add_column => k_is)
    (case cc_Table_add_column => k_is)
    (case kk_Table_add_column => k_is)
    (case q_Table_mistake => k_is)
    (case i_Table_mistake => k_is)
    (case l_Table_mistake => k_is)
    (case cc_Table_mistake => k_is)
    (case kk_Table_mistake => k_is)
    (case q_Table_machine => k_is)
    (case i_Table_machine => k_is)
    (case l_Table_machine => k_is)
    (case cc_Table_machine => k_is)
    (case tk_Table_machine => k_is)
    (case tv_Table_machine => rfl)
    (case tn_Table_machine => kernel_rfl)
    (case th_Table_machine => first | kernel_rfl | k_is)
    (case tq_Table_machine => rfl)
    (case kk_Table_machine => k_is)
    (case q_Table_rows => k_is)
    (case i_Table_rows => k_is)
    (case l_Table_rows => k_is)
    (case cc_Table_rows => k_is)
    (case kk_Table_rows => k_is)
    (case q_Table_new_row => k_is)
    (case i_Table_new_row => k_is)
    (case l_Table_new_row => k_is)
    (case cc_Table_new_row => k_is)
    (case kk_Table_new_row => k_is)
    (case q_Table_outputs => k_is)
    (case i_Table_outputs => k_is)
    (case l_Table_outputs => k_is)
    (case cc_Table_outputs => k_is)
    (case kk_Table_outputs => k_is)
    (case q_law_cell => k_is)
    (case l_law_cell => k_is)
    (case cc_law_cell => k_is)
    (case kk_law_cell => k_is)
    (case q_law_numbers => k_is)
    (case l_law_numbers => k_is)
    (case cc_law_numbers => k_is)
    (case kk_law_numbers => k_is)
    (case q_law_machine => k_is)
    (case l_law_machine => k_is)
    (case cc_law_machine => k_is)
    (case kk_law_machine => k_is)
    (case q_law_state => k_is)
    (case l_law_state => k_is)
    (case cc_law_state => k_is)
    (case kk_law_state => k_is)
    (case q_law_output => k_is)
    (case l_law_output => k_is)
    (case cc_law_output => k_is)
    (case kk_law_output => k_is)
    (case q_law_rows => k_is)
    (case l_law_rows => k_is)
    (case cc_law_rows => k_is)
    (case kk_law_rows => k_is)
    (case q_law_wanted => k_is)
    (case l_law_wanted => k_is)
    (case cc_law_wanted => k_is)
    (case kk_law_wanted => k_is)
    (case q_law_row => k_is)
    (case l_law_row => k_is)
    (case cc_law_row => k_is)
    (case kk_law_row => k_is)
    (case q_law_made => k_is)
    (case l_law_made => k_is)
    (case cc_law_made => k_is)
    (case kk_law_made => k_is)
    (case q_law_mistake => k_is)
    (case l_law_mistake => k_is)
    (case cc_law_mistake => k_is)
    (case kk_law_mistake => k_is)
    (case q_law_machine_told => k_is)
    (case l_law_machine_told => k_is)
    (case cc_law_machine_told => k_is)
    (case kk_law_machine_told => k_is)
    (case q_law_alike => k_is)
    (case l_law_alike => k_is)
    (case cc_law_alike => k_is)
    (case kk_law_alike => k_is)
    (case q_law_filled => k_is)
    (case l_law_filled => k_is)
    (case cc_law_filled => k_is)
    (case kk_law_filled => k_is)
    (case q_law_extended => k_is)
    (case l_law_extended => k_is)
    (case cc_law_extended => k_is)
    (case kk_law_extended => k_is)
    (case q_law => k_is)
    (case l_law => k_is)
    (case cc_law => k_is)
    (case kk_law => k_is)
    (case z_list => k_is)
    (case z_len => k_is)
    (case z_tuple => k_is)
    (case z_range => k_is)
    (case z_all => k_is)
    (case z_int => k_is)
    (case z_isinstance => k_is)
    (case z_max => k_is)
    (case z_min => k_is)
