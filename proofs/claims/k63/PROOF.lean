import PyProof.Rows.All
import Wide.All
import OpenK.AllK
import Wide.FinOn
import KE.KIsAll
import KE.KTryMore
import HandS.ForMost
import HandS.ForExc
import HandS.ExcIs
import HandS.IsInst
import HandS.Small
import HandS.Codes
import HandS.TupAny
import HandS.AnyAll
import HandS.HotCalls
import KE.LtData
import HandS.FStr
import HandS.EndTab
import KE.KDictDisplayH
import KE.DataMinMax
import HandS.More
import KE.KIndexOf
import HandS.Iter
import HandS.Zip
import HandS.Style
import HandS.Gcd
import HandS.Wide
import HandS.TupLe
import KE.KMathGC
import HandS.Walk
import HandS.SortKw
import HandS.Conv
import KE.SortKeyHeap
import KE.SortData
import KE.KDictSum
import HandS.GenList
import PyProof.WalksS
import KE.DataAny
import PyProof.GenCompD
import HandS.Lambda
import HandS.Nested
import KE.DataMinKey
import KE.DataCmp
import KE.GoesMore
import KE.KeyNested
import HandS.SetKeys
import HandS.Comp
import HandS.DictComp
import HandS.DictTup
import HandS.TupLen
import HandS.WordsDict
import HandS.WideBits
import HandS.Deep
import HandS.EndOwn
import PySem.Challenge.RW_maieutic_k63_least_tree_machines
set_option Elab.async false
set_option linter.all false
set_option maxRecDepth 100000
set_option maxHeartbeats 4000000
namespace Mz
open PySem PySem.Spec PyProof.Rows L2
/-! ### calls whose errors are wished for at the slots as they stand -/
section
variable {X : Cx} {CX : CXT} {k : Nat} {f C : Addr} {fd : FuncData} {ps : List Str} {sp : Sp} {E : L2.St → XK} {x m : Str} {p pos apos : Pos} {e o : Expr} {es : List Expr} {ta : TE} {t : TA}
def tMethS (C : Addr) (m : Str) (sp : Sp) (E : L2.St → XK) (ta : TE) (t : TA) : TE := fun σ H Q => ta σ H fun x H1 => ∃ a dx fs, x = .ref a ∧ H1 a = some (.ins C dx fs) ∧ fs.lookup m = none ∧ t σ H1 fun vs H2 => sp (x :: vs) H2 Q (E σ)
theorem pe_methS {pl : Sem Bool} (he : PE X o ta) (c : Cls X.K C) (hm : Meth X.K C m f)
    (F : FnOk X.prog X.w X.K X.mg X.base CX k f fd ps sp) (hr : Room k X.A) (hb : Binds X.K fd ps []) (hx : ∀ σ, PassesAt CX X σ (E σ)) (ha : PA X (e :: es) t)
    (hst : starEach (e :: es) X.env = (false, eval e X.env) :: starEach es X.env := by rfl) (hpl : (backTo pos (starEach es X.env)).any (·.1) = false := by rfl)
    (ht : eval (.Call (.Attribute o m apos) (e :: es) [] pos) X.env = (do
      let ov ← eval o X.env
      standAt apos.atName
      let (f, first) ← holding [ov] (getMethod ov m pl)
      callWith pos f first (backTo pos (starEach (e :: es) X.env)) (backToKw pos (keywordEach [] X.env))) := by rfl) :
    PE X (.Call (.Attribute o m apos) (e :: es) [] pos) (tMethS C m sp E ta t) := by
  refine ⟨fun pins s σ H Q I h => ?_⟩
  refine PySem.W.methodCall_KW (pl := pl) (thn (he.run pins s σ H _ I h) fun u s1 ⟨x, H1, I1, rx, a, dx, fs, ex, ea, l, q⟩ => ?_) ht
  subst ex
  obtain rfl : u = Value.ref a := rx
  refine getmeth_ok I1 ea c hm l ?_
  refine PySem.W.callWith_K (first := [.ref a]) (h₀ := X.base) I.ok.mod.kin hm.kp (thn (ha.run pos pins s1 σ H1 _ I1 q) fun us s2 ⟨vs, H2, I2, r, q2⟩ => ⟨I2.kIn, ?_⟩) hst hpl
  exact run_fnS (us := .ref a :: us) (vs := .ref a :: vs) F hr hb (hx σ) I2 (.cons rfl r) q2
theorem pe_methS0 {pl : Sem Bool} (he : PE X o ta) (c : Cls X.K C) (hm : Meth X.K C m f)
    (F : FnOk X.prog X.w X.K X.mg X.base CX k f fd ps sp) (hr : Room k X.A) (hb : Binds X.K fd ps []) (hx : ∀ σ, PassesAt CX X σ (E σ))
    (ht : eval (.Call (.Attribute o m apos) [] [] pos) X.env = (do
      let ov ← eval o X.env
      standAt apos.atName
      let (f, first) ← holding [ov] (getMethod ov m pl)
      callWith pos f first (backTo pos (starEach [] X.env)) (backToKw pos (keywordEach [] X.env))) := by rfl) :
    PE X (.Call (.Attribute o m apos) [] [] pos) (tMethS C m sp E ta tNil) := by
  refine ⟨fun pins s σ H Q I h => ?_⟩
  refine PySem.W.methodCall_KW (pl := pl) (thn (he.run pins s σ H _ I h) fun u s1 ⟨x, H1, I1, rx, a, dx, fs, ex, ea, l, q⟩ => ?_) ht
  subst ex
  obtain rfl : u = Value.ref a := rx
  refine getmeth_ok I1 ea c hm l ?_
  exact PySem.W.callWith_K0 (first := [.ref a]) I1.kIn hm.kp
    (run_fnS (us := [.ref a]) (vs := [.ref a]) F hr hb (hx σ) I1 (.cons rfl .nil) q)
def tMakeS (C : Addr) (sp : Sp) (E : L2.St → XK) (t : TA) : TE := fun σ H Q =>
  t σ H fun vs H1 => ∀ x dx, H1 x = none → H1 dx = none → dx ≠ x → sp (.ref x :: vs) (upd (upd H1 dx (.own x)) x (.ins C dx [])) (fun v H2 => v = .non ∧ Q (.ref x) H2) (E σ)
theorem run_makeS {pins : List (Addr × Obj)} {σ : L2.St} {H : Hp} {s : Shared} {Q : VK} {us : List Value} {vs : List V} (M : Mk X.K C f)
    (F : FnOk X.prog X.w X.K X.mg X.base CX k f fd ps sp) (hr : Room (k + 1) X.A) (hb : Binds X.K fd ps [])
    (hx : PassesAt CX X σ (E σ)) (I : Inv X pins σ H s) (r : Vals vs us)
    (h : ∀ x dx, H x = none → H dx = none → dx ≠ x → sp (.ref x :: vs) (upd (upd H dx (.own x)) x (.ins C dx [])) (fun v H2 => v = .non ∧ Q (.ref x) H2) (E σ)) :
    wpAny (model X.prog X.w) X.A (call (.ref C) us) (EP X pins σ Q) X.xe s := by
  obtain ⟨dx, hdx⟩ : ∃ n, n = s.heap.objs.size := ⟨_, rfl⟩
  have w := h (s.heap.objs.size + 1) s.heap.objs.size (I.hok.fresh (Nat.le_succ _)) (I.hok.fresh (Nat.le_refl _)) (Nat.ne_of_lt (Nat.lt_succ_self _))
  have J := Inv.made (C := C) I
  have rr : Vals (V.ref (s.heap.objs.size + 1) :: vs) (Value.ref (s.heap.objs.size + 1) :: us) := .cons rfl r
  have len : ((Value.ref (s.heap.objs.size + 1) :: us) ++ []).length = ps.length := by
    have z := rr.length
    rw [F.len _ _ _ _ w] at z
    rw [List.append_nil]
    exact z.symm
  have bb := hb _ (Value.ref (s.heap.objs.size + 1) :: us) J.kIn len
  rw [List.append_nil] at bb
  refine wpAny_call (make_map (f := f) I.kIn M.makes M.init (beq_iff_eq.mp M.fn) (codeAny_mono (F.run _ X.stack _ _ ⟨Value.ref (s.heap.objs.size + 1) :: us, []⟩
    (Value.ref (s.heap.objs.size + 1) :: us) _ _ (E σ) (hr.make C us []) (J.env0.make C us []) bb rr w) fun g s' z => ?_))
  match g, z with
  | .error e, z => exact hx pins _ _ e s' J z
  | .ok (.ret u), z =>
    obtain ⟨v, H', I3, rv, ev, q3⟩ := J.after z
    subst ev
    exact ⟨rv, ⟨V.ref (s.heap.objs.size + 1), H', I3, rfl, q3⟩⟩
  | .ok .next, z => exact z.elim
  | .ok .brk, z => exact z.elim
  | .ok .cont, z => exact z.elim
theorem pe_makeS (M : Mk X.K C f) (F : FnOk X.prog X.w X.K X.mg X.base CX k f fd ps sp) (hr : Room (k + 1) X.A) (hg : Gl X x) (hm : X.mg x = some (.ref C)) (hb : Binds X.K fd ps [])
    (hx : ∀ σ, PassesAt CX X σ (E σ)) (ha : PA X (e :: es) t) (hdb : (x == ("__debug__" : Str)) = false := by decide)
    (he : starEach (e :: es) X.env = (false, eval e X.env) :: starEach es X.env := by rfl) (hpl : (backTo pos (starEach es X.env)).any (·.1) = false := by rfl) :
    PE X (.Call (.Name x p) (e :: es) [] pos) (tMakeS C sp E t) :=
  ⟨fun pins s σ H Q I h => wpAny_Call_Name_kw (ld_glob I hg hm
    (PySem.W.callWith_K (h₀ := X.base) I.ok.mod.kin M.kp (thn (ha.run pos pins s σ H _ I h) fun us s1 ⟨vs, H1, I1, r, q⟩ => ⟨I1.kIn, run_makeS M F hr hb (hx σ) I1 r q⟩) he hpl) hdb)⟩
end
/-! ### isinstance of the error that a suite holds -/
def rIsX (K : PySem.W.Frag) (a : Addr) (cls : Value) (d : Option Addr) : List V → Hp → VK → Prop := fun xs H Q =>
  ∃ (D C : Addr) (b : Bool), cls = .ref D ∧ d = none ∧ ExcC K D ∧ xs = [.ref a, .ref C] ∧ PySem.W.kitOne K (.ref D) (.ref C) = some b ∧ Q (.bl b) H
theorem call_isX {X : Cx} {a : Addr} {cls : Value} {d : Option Addr} {oe : Obj} {pn : List (Addr × Obj)} (hz : Zc cls d oe) (hf : ∃ vs, oe.data = .fields vs) :
    CallR (X.suite a ((a, oe) :: pn)) (.builtin "isinstance") (rIsX X.K a cls d) := by
  rintro pins s σ H xs us Q I r ⟨D, C, b, rfl, rfl, ec, rfl, hk, q⟩
  exact call_isE ec hz hf pins s σ H _ us Q I r ⟨.ref C, .ref C, b, rfl, fun u z => z, hk, q⟩
def rIsXT (K : PySem.W.Frag) (a : Addr) (cls : Value) (d : Option Addr) : List V → Hp → VK → Prop := fun xs H Q =>
  ∃ (D tp : Addr) (cs : List V) (us : List Value) (b : Bool), cls = .ref D ∧ d = none ∧ ExcC K D ∧ xs = [.ref a, .ref tp] ∧ H tp = some (.tup cs) ∧ Paired ClsV cs us ∧ PySem.W.kitAny K (.ref D) us = some b ∧ Q (.bl b) H
theorem call_isXT {X : Cx} {a : Addr} {cls : Value} {d : Option Addr} {oe : Obj} {pn : List (Addr × Obj)} (hz : Zc cls d oe) (hf : ∃ vs, oe.data = .fields vs) :
    CallR (X.suite a ((a, oe) :: pn)) (.builtin "isinstance") (rIsXT X.K a cls d) := by
  rintro pins s σ H xs vs Q I r ⟨D, tp, cs, us, b, rfl, rfl, ec, rfl, hT, k, hk, q⟩
  obtain ⟨u1, u2, rfl, r1, r2⟩ := vals2 r
  cases (show u2 = Value.ref tp from r2)
  cases (show u1 = Value.ref a from r1)
  obtain ⟨hget, _⟩ := I.pin (a, oe) (List.mem_append.mpr (.inl List.mem_cons_self))
  obtain ⟨fv, hv⟩ := hf
  have J : PySem.W.InstAt s.heap a oe D none := by
    obtain ⟨oc, od, oda, osl⟩ := oe
    obtain ⟨h1, h2⟩ := hz
    dsimp only at h1 h2 hv
    subst h1 h2 hv
    exact ⟨hget, rfl, rfl, trivial⟩
  obtain ⟨_, its, rv, ob, h1, h2, n, h3⟩ := (show ObjOk X.prog X.w H s.heap tp (.tup cs) from I.hok tp _ hT)
  have e3 := ClsV.all k rv
  subst e3
  obtain ⟨oc, od, dt, sl⟩ := ob
  simp only at h2 h3
  subst h2 h3
  exact PySem.W.kia_tup (PySem.W.handS_kitx_exc ec.hg ec.hk ec.hs ec.hd ec.ha ec.hn ec.ht ec.hm) I.kIn J h1 hk (fun z => nomatch z)
    fun tk => ⟨.bl b, H, I.kept (t' := tk) fun _ _ z => z, rfl, q⟩
/-- one own error class against another -/
theorem kit_own {K : PySem.W.Frag} {D C : Addr} {b : Bool} (hD : PySem.W.subIn K (.ref D) (.ref D) = some true) (ec : ExcC K C) (ht : PySem.W.typeIn K (.ref C) = some (.type "type"))
    (h : PySem.W.subIn K (.ref D) (.ref C) = some b) : PySem.W.kitOne K (.ref D) (.ref C) = some b := by
  unfold PySem.W.kitOne
  by_cases e : D = C
  · subst e
    rw [hD] at h
    cases h
    rw [if_pos (by simp)]
  · rw [if_neg (by simpa using fun z => e (Value.ref.inj z))]
    have e1 := PySem.W.exm_ref (cls := .ref D) (C := C) ec.hs ec.hd ht h
    unfold PySem.W.exmOne at e1
    split at e1
    · exact e1
    · cases e1
theorem exm_own {K : PySem.W.Frag} {D C : Addr} {b : Bool} (ec : ExcC K C) (ht : PySem.W.typeIn K (.ref C) = some (.type "type")) (h : PySem.W.subIn K (.ref D) (.ref C) = some b) :
    PySem.W.exmOne K (.ref D) (.ref C) = some b := PySem.W.exm_ref ec.hs ec.hd ht h
end Mz

set_option Elab.async false
set_option linter.all false
set_option maxRecDepth 100000
set_option maxHeartbeats 4000000
/-! all(..) of a generator expression over a list or a tuple, by what its element gives for each item -/
namespace Mz
open PySem PySem.Spec PyProof.Rows L2 GxR
section
variable {X : Cx} {pins : List (Addr × Obj)} {σ : L2.St} {H : Hp} {s : Shared}
/-- a generator that will give the truths tr, n of them -/
def ReadyB (X : Cx) (pins : List (Addr × Obj)) (σ : L2.St) (H1 : Hp) (P : Addr) (n : Nat) (tr : Nat → Bool) (g : Addr) (s5 : Shared) : Prop :=
  ∃ (fp wr : List Addr) (G : Array GenState → Array GenState → Prop) (F : Nat → Value → Prop) (St : Nat → Shared → Prop), WalksS X.prog X.w X.A.in1 g fp wr G n F St ∧
    St 0 s5 ∧ TruthOf X.prog X.w X.A.in1 F tr ∧ ∀ s', Moved wr G s5 s' → ∃ H2, Tabbed P H1 H2 ∧ Inv X pins σ H2 s'
/-- the element at the item i, whatever time it is -/
def EltI (X : Cx) (P : Addr) (scope : Scope) (x : Str) (elt : Expr) (s1 : Shared) (Pf : Nat → Value → Prop) (tr : Nat → Bool) : Prop :=
  ∀ (cenv : Env) (A' : Around) (E' : Value → Shared → Prop) (i : Nat) (v : Value) (s₂ : Shared) (m₂ : Str → Option Value), cenv.scope = scope → cenv.cells = cloFrom X.env.cells scope.names [] →
    cenv.globals = X.env.globals → A'.handled = none → A'.units ≤ X.A.units + 8 → Pf i v → s₂.heap.Ns cenv.locals m₂ → m₂ x = some v → (∀ b u, b ≠ P → s1.heap.get? b = some u → s₂.heap.get? b = some u) →
    wpAny (model X.prog X.w) A' (eval elt cenv) (fun y s₃ => y = .bool (tr i) ∧ Keeps s₂ s₃) E' s₂
theorem gen_run {c P : Addr} {elt : Expr} {x : Str} {gpos : Pos} {scope : Scope} {k : Nat} {Q' : Value → Shared → Prop} {xv : Value} {o : Obj} {n : Nat} {Pf : Nat → Value → Prop} {St : Nat → Heap → Prop} {fp : List Addr} {tr : Nat → Bool}
    (hr : Room k X.A) (TB : TabB X.base X.mg c P) (hcode : X.env.code = .ref c) (I : Inv X pins σ H s) (hT : TabG H P)
    (hit : ∀ Q₂ : Value → Shared → Prop, Q₂ (.ref s.heap.objs.size) { s with heap := s.heap.push o } → wpAny (model X.prog X.w) X.A (pyIter xv) Q₂ X.xe s)
    (hW : ∀ A' : Around, A'.handled = none → Walks X.prog X.w A' s.heap.objs.size fp [s.heap.objs.size] n Pf St)
    (hst : ∀ h3 : Heap, (∀ b u, b ≠ P → (s.heap.push o).get? b = some u → h3.get? b = some u) → St 0 h3) (hfp : ∀ b ∈ fp, b ≤ s.heap.objs.size)
    (hel : EltI X P scope x elt s Pf tr) (hQ : ∀ g s5, ReadyB X pins σ H P n tr g s5 → Q' (.ref g) s5) :
    wpAny (model X.prog X.w) X.A (pyIter xv) (fun it s₂ => s₂.heap.NoLimit ∧ wpAny (model X.prog X.w) X.A (genexprCode X.env gpos (X.env.qual ++ "<genexpr>") scope) (fun code s₃ =>
      wpAny (model X.prog X.w) X.A (builtinsFor X.env.globals X.env.builtins) (fun bi s₄ => ∃ I fp wr n₀ P St₀ pz F, it = .ref I ∧ (∀ A' : Around, A'.handled = none → Walks X.prog X.w A' I fp wr n₀ P St₀) ∧ St₀ 0 s₄.heap ∧
        (∀ b ∈ fp, b < s₄.heap.objs.size) ∧ s₄.heap.NoLimit ∧ cStatics ∉ wr ∧ (∀ href : Heap, (∀ b o, s₄.heap.get? b = some o → href.get? b = some o) →
          QuietGenD X.prog X.w (genEnv scope (cloFrom X.env.cells scope.names []) s₄.heap.objs.size code bi X.env) x [] elt (List.range s₄.heap.objs.size) wr P pz F href (X.A.depth + 1) (X.A.units + 8)) ∧
        (∀ a h₅ tk gs, gs.bare = true → s₄.heap.objs.size < a → h₅.objs.size = a + 1 → (∀ b o, s₄.heap.get? b = some o → h₅.get? b = some o) → WalksS X.prog X.w X.A.in4 a (a :: s₄.heap.objs.size :: List.range s₄.heap.objs.size) (s₄.heap.objs.size :: wr)
            (GenOnlyQ s₄.gens.size) (passing pz n₀ 0).length (fun j y => ∃ i, (passing pz n₀ 0)[j]? = some i ∧ F i y) (GenAt X.prog X.w X.A.in4 a s₄.gens.size s₄.heap.objs.size (List.range s₄.heap.objs.size) wr pz n₀ F) →
          GenAt X.prog X.w X.A.in4 a s₄.gens.size s₄.heap.objs.size (List.range s₄.heap.objs.size) wr pz n₀ F 0 { s₄ with gens := s₄.gens.push gs, toks := tk, heap := h₅ } → Q' (.ref a) { s₄ with gens := s₄.gens.push gs, toks := tk, heap := h₅ })) X.xe s₃) X.xe s₂) X.xe s := by
  obtain ⟨ps, hP, ht⟩ := hT
  refine hit _ ?_
  have hPs := I.hok P _ hP
  have hPs : s.heap.get? P = some { cls := .none, data := .fields ps } := hPs
  have Plt := Heap.lt_size hPs
  have hP2 : (s.heap.push o).get? P = some { cls := .none, data := .fields ps } := Heap.get?_push_of_some _ hPs
  have cd := TB.code.keeps fun b u e => Heap.get?_push_of_some o (I.bk b u e)
  have lim2 := I.nolimit.push o
  have stat : cStatics ≠ P ∧ cStatics < s.heap.objs.size := by
    obtain ⟨_, hns, _⟩ := I.nolimit
    refine ⟨fun e => ?_, hns.lt⟩
    obtain ⟨o', es, ep, ho, hd, _⟩ := hns
    rw [e, hPs] at ho
    cases ho
    cases hd
  refine ⟨lim2, ?_⟩
  -- what follows once the code object is there: its table at P holds ps', grown out of ps
  have rest : ∀ (h3 : Heap) (tk : Nat) (more : Array Value), Heap.ExtBut P (s.heap.push o) h3 → (s.heap.push o).objs.size ≤ h3.objs.size → h3.get? P = some { cls := .none, data := .fields (ps ++ more) } → TriplesOk (ps ++ more).toList →
      ∀ (Qb : Addr → Shared → Prop), (∀ bi : Addr, Qb bi { s with heap := h3, toks := tk }) → wpAny (model X.prog X.w) X.A (builtinsFor X.env.globals X.env.builtins) Qb X.xe { s with heap := h3, toks := tk } := by
    intro h3 tk more hx hsz hP3 ht3 Qb hQb
    obtain ⟨bm, ob, e1, e2, e3, e4, e5, e6, e7, e8⟩ := TB.bm
    have old : ∀ b u, b ≠ P → s.heap.get? b = some u → h3.get? b = some u := fun b u hb e => hx b u hb (Heap.get?_push_of_some _ e)
    refine wpAny_builtinsFor (m := X.mg) ?_ e1 e2 (old _ _ e4 (I.bk _ _ e5)) e6 e7 e8 (hQb _)
    rw [I.ok.glob]
    exact ((I.mod.glob.keeps I.bk).push o).extBut hx TB.gP
  have core : ∀ (code : Value) (h3 : Heap) (tk : Nat) (more : Array Value) (bi : Addr), Heap.ExtBut P (s.heap.push o) h3 → (s.heap.push o).objs.size ≤ h3.objs.size → h3.get? P = some { cls := .none, data := .fields (ps ++ more) } → TriplesOk (ps ++ more).toList →
      (∀ b ∈ fp, b < h3.objs.size) ∧ h3.NoLimit ∧ cStatics ∉ [s.heap.objs.size] ∧ (∀ href : Heap, (∀ b o, h3.get? b = some o → href.get? b = some o) →
        QuietGenD X.prog X.w (genEnv scope (cloFrom X.env.cells scope.names []) h3.objs.size code bi X.env) x [] elt (List.range h3.objs.size) [s.heap.objs.size] Pf (fun _ => true) (fun i y => i < n → y = .bool (tr i)) href (X.A.depth + 1) (X.A.units + 8)) := by
    intro code h3 tk more bi hx hsz hP3 ht3
    have sz2 : (s.heap.push o).objs.size = s.heap.objs.size + 1 := Heap.size_push ..
    refine ⟨fun b hb => ?_, lim2.extBut hx stat.1, fun z => ?_, fun href hh => ⟨?_, ?_⟩⟩
    · exact Nat.lt_of_le_of_lt (hfp b hb) (show s.heap.objs.size < h3.objs.size by omega)
    · have z2 := List.mem_singleton.mp z
      exact absurd stat.2 (by rw [z2]; exact Nat.lt_irrefl _)
    · intro A' E' i v s₂ m₂ _ _ _ _ _ _ _
      simp only [List.forIn_nil]
      exact wpAny_pure ⟨rfl, keeps_refl _⟩
    · intro A' E' i v s₂ m₂ hA _ hU hPf _ hn hm hk
      refine wpAny_mono (hel _ A' E' i v s₂ m₂ rfl rfl rfl hA hU hPf hn hm fun b u hb e => ?_) (fun y s₃ q => ⟨fun _ => q.1, q.2⟩) fun _ _ q => q
      have h3b := hx b u hb (Heap.get?_push_of_some _ e)
      refine hk b (List.mem_range.mpr (Heap.lt_size h3b)) (fun z => ?_) u (hh b u h3b)
      rw [List.mem_singleton.mp z] at e
      exact absurd (Heap.lt_size e) (Nat.lt_irrefl _)
  have fin : ∀ (h3 : Heap) (tk : Nat) (more : Array Value), Heap.ExtBut P (s.heap.push o) h3 → (s.heap.push o).objs.size ≤ h3.objs.size → h3.get? P = some { cls := .none, data := .fields (ps ++ more) } → TriplesOk (ps ++ more).toList →
      ∀ (a : Addr) (h₅ : Heap) (tk5 : Nat) (gs : GenState), gs.bare = true → h3.objs.size < a → (∀ b o, h3.get? b = some o → h₅.get? b = some o) →
      WalksS X.prog X.w X.A.in4 a (a :: h3.objs.size :: List.range h3.objs.size) (h3.objs.size :: [s.heap.objs.size]) (GenOnlyQ s.gens.size) (passing (fun _ => true) n 0).length (fun j y => ∃ i, (passing (fun _ => true) n 0)[j]? = some i ∧ (i < n → y = .bool (tr i)))
        (GenAt X.prog X.w X.A.in4 a s.gens.size h3.objs.size (List.range h3.objs.size) [s.heap.objs.size] (fun _ => true) n fun i y => i < n → y = .bool (tr i)) →
      GenAt X.prog X.w X.A.in4 a s.gens.size h3.objs.size (List.range h3.objs.size) [s.heap.objs.size] (fun _ => true) n (fun i y => i < n → y = .bool (tr i)) 0 { s with gens := s.gens.push gs, toks := tk5, heap := h₅ } →
      Q' (.ref a) { s with gens := s.gens.push gs, toks := tk5, heap := h₅ } := by
    intro h3 tk more hx hsz hP3 ht3 a h₅ tk5 gs hgb hag hk5 W5 hat
    have sz2 : (s.heap.push o).objs.size = s.heap.objs.size + 1 := Heap.size_push ..
    have old : ∀ b u, b ≠ P → s.heap.get? b = some u → h3.get? b = some u := fun b u hb e => hx b u hb (Heap.get?_push_of_some _ e)
    simp only [GxR.passing_true, List.length_range] at W5
    refine hQ a _ ⟨_, _, _, _, _, W5.in4_1, hat, ?_, fun s' hm => ?_⟩
    · rintro j y sj Qj Ej ⟨i, hij, hy⟩ hQj
      obtain ⟨hj, ej⟩ := List.getElem?_eq_some_iff.mp hij
      rw [List.length_range] at hj
      rw [List.getElem_range] at ej
      subst ej
      rw [hy hj]
      exact wpAny_truthy_bool hQj
    · have far : ∀ b u, s.heap.get? b = some u → b ∉ h3.objs.size :: [s.heap.objs.size] := fun b u e hb => by
        have l := Heap.lt_size e
        rcases List.mem_cons.mp hb with z | z
        · rw [z] at l
          exact absurd l (Nat.not_lt.mpr (show s.heap.objs.size ≤ h3.objs.size by omega))
        · rw [List.mem_singleton.mp z] at l
          exact Nat.lt_irrefl _ l
      have J := inv_tab (more := more) (h' := s'.heap) (g' := s'.gens) (d' := s'.drawn) (t' := s'.toks) I hP
        (fun b u hb e => hm.heap b u (far b u e) (hk5 b u (old b u hb e))) (hm.heap P _ (far P _ hPs) (hk5 P _ hP3)) (AllBare.movedS (I.bare.push hgb) hm)
      rw [sh_eta s s' hm.os] at J
      exact ⟨_, ⟨⟨_, upd_same, ht3⟩, fun b hb => upd_ne hb⟩, J⟩
  cases hf : codeAmong gpos ps.toList with
  | none =>
    refine wpAny_genexprCodeX hcode (cd.code hP2 ht) (cd.tab hP2) hf fun c' h' tk hx hge hlt hco' _ htab' _ => ?_
    obtain ⟨o1, vs, f1, tf, fl, tg, inF, tx, tt, op, _, _, _, _, _, _, _, _, _, htr, _⟩ := hco'
    have hsz := Nat.le_trans hge (Nat.le_of_lt hlt)
    refine rest h' tk _ hx hsz htab'.2 htr _ fun bi => ?_
    refine ⟨_, fp, _, n, Pf, St, (fun _ => true), (fun i y => i < n → y = .bool (tr i)), rfl, hW, hst h' hx, ?_⟩
    obtain ⟨q1, q2, q3, q4⟩ := core _ h' tk _ bi hx hsz htab'.2 htr
    exact ⟨q1, q2, q3, q4, fun a h₅ tk5 gs g1 g2 _ g4 => fin h' tk _ hx hsz htab'.2 htr a h₅ tk5 gs g1 g2 g4⟩
  | some cv =>
    refine wpAny_genexprCode_hit hcode (cd.code hP2 ht) hf ?_
    have e0 : ps ++ #[] = ps := by simp
    have hP3 : (s.heap.push o).get? P = some { cls := .none, data := .fields (ps ++ #[]) } := by rw [e0]; exact hP2
    have ht3 : TriplesOk (ps ++ #[]).toList := by rw [e0]; exact ht
    have hx0 : Heap.ExtBut P (s.heap.push o) (s.heap.push o) := Heap.ExtBut.refl _ _
    refine rest (s.heap.push o) s.toks #[] hx0 (Nat.le_refl _) hP3 ht3 _ fun bi => ?_
    refine ⟨_, fp, _, n, Pf, St, (fun _ => true), (fun i y => i < n → y = .bool (tr i)), rfl, hW, hst _ hx0, ?_⟩
    obtain ⟨q1, q2, q3, q4⟩ := core cv (s.heap.push o) s.toks #[] bi hx0 (Nat.le_refl _) hP3 ht3
    exact ⟨q1, q2, q3, q4, fun a h₅ tk5 gs g1 g2 _ g4 => fin (s.heap.push o) s.toks #[] hx0 (Nat.le_refl _) hP3 ht3 a h₅ tk5 gs g1 g2 g4⟩
/-- the element for an item v of which G says that it gives b -/
def EltB (X : Cx) (P : Addr) (scope : Scope) (x : Str) (elt : Expr) (G : L2.St → Hp → V → Bool → Prop) : Prop :=
  ∀ (pins : List (Addr × Obj)) (σ : L2.St) (H : Hp) (s1 : Shared) (v : V) (b : Bool), Inv X pins σ H s1 → TabG H P → G σ H v b → ∀ (cenv : Env) (A' : Around) (E' : Value → Shared → Prop) (u : Value) (s₂ : Shared) (m₂ : Str → Option Value),
    cenv.scope = scope → cenv.cells = cloFrom X.env.cells scope.names [] → cenv.globals = X.env.globals → A'.handled = none → A'.units ≤ X.A.units + 8 → RelV v u → s₂.heap.Ns cenv.locals m₂ → m₂ x = some u →
    (∀ b u, b ≠ P → s1.heap.get? b = some u → s₂.heap.get? b = some u) → wpAny (model X.prog X.w) A' (eval elt cenv) (fun y s₃ => y = .bool b ∧ Keeps s₂ s₃) E' s₂
/-- the truths in their places -/
def trAt (f : V → Bool) (vs : List V) (j : Nat) : Bool := match vs[j]? with
  | some z => f z
  | none => true
theorem trAt_all (f : V → Bool) (vs : List V) : (List.range vs.length).all (trAt f vs) = vs.all f := by
  rw [Bool.eq_iff_iff, List.all_eq_true, List.all_eq_true]
  constructor
  · intro h z hz
    obtain ⟨j, hj, e⟩ := List.getElem_of_mem hz
    have q := h j (List.mem_range.mpr hj)
    unfold trAt at q
    rw [List.getElem?_eq_getElem hj, e] at q
    exact q
  · intro h j hj
    unfold trAt
    rw [List.getElem?_eq_getElem (List.mem_range.mp hj)]
    exact h _ (List.getElem_mem _)
/-- all(elt for x in e), e a list or a tuple; behind it the def's table may have grown -/
def tAllQ (K : PySem.W.Frag) (P : Addr) (G : L2.St → Hp → V → Bool → Prop) (te : TE) : TE := fun σ H Q => te σ H fun v H1 =>
  ∃ (a : Addr) (vs : List V) (f : V → Bool), v = .ref a ∧ (SqL K H1 a vs ∨ SqT K H1 a vs) ∧ TabG H1 P ∧ (∀ z ∈ vs, G σ H1 z (f z)) ∧ ∀ H2, Tabbed P H1 H2 → Q (.bl (vs.all f)) H2
theorem pe_allQ {c P : Addr} {elt iter : Expr} {x : Str} {px p pos gpos : Pos} {scope : Scope} {G : L2.St → Hp → V → Bool → Prop} {te : TE} {k : Nat} (hr : Room k X.A) (hg : Gl X "all") (hm : X.mg "all" = none)
    (TB : TabB X.base X.mg c P) (hcode : X.env.code = .ref c) (S : GenS X.env scope x) (hi : PE X iter te) (hel : EltB X P scope x elt G) (hs : ∀ v, genFold iter X.env v = pure v)
    (hb : bootBuiltins "all" = some (.builtin "all") := by decide +kernel)
    (he : starEach [.GeneratorExp elt [⟨.Name x px, iter, [], 0⟩] scope gpos] X.env = (false, eval (.GeneratorExp elt [⟨.Name x px, iter, [], 0⟩] scope gpos) X.env) :: starEach [] X.env := by rfl) :
    PE X (.Call (.Name "all" p) [.GeneratorExp elt [⟨.Name x px, iter, [], 0⟩] scope gpos] [] pos) (tAllQ X.K P G te) := by
  refine ⟨fun pins s σ H Q I h => wpAny_Call_Name_kw (ld_blt I hg hm hb (PyProof.Rows.callWith_builtin1 ?_ he (by rfl)))⟩
  rw [he]
  show wpAny _ _ (spliced ((false, eval (.GeneratorExp elt [⟨.Name x px, iter, [], 0⟩] scope gpos) X.env) :: backTo pos (starEach [] X.env))) _ _ s
  refine Calls.spliced_cons (wpAny_GeneratorExp_walksQD hr.hd S.co (closure_ok S.free) S.cell S.dot S.loc S.kind (by have := hr.dp; omega) ?_ hs)
  refine thn (hi.run pins s σ H _ I h) fun xv s1 ⟨v, H1, I1, r1, a, vs, f, ev, hq, hT, hG, hQ⟩ => ?_
  subst ev
  obtain rfl : xv = Value.ref a := r1
  -- the generator is made: it is walked
  have done : ∀ (n : Nat), n = vs.length → ∀ (g : Addr) (s5 : Shared), ReadyB X pins σ H1 P n (trAt f vs) g s5 → wpAny (model X.prog X.w) X.A (spliced (backTo pos (starEach [] X.env))) (fun ws s6 => wpAny (model X.prog X.w) X.A (call (.builtin "all") (.ref g :: ws)) (EP X pins σ Q) X.xe s6) X.xe s5 := by
    rintro n rfl g s5 ⟨fp, wr, Gq, F, St, W, hst, htr, hI⟩
    refine Calls.spliced_nil ?_
    refine call_all_walkS (W.self 0 _ _ _ hst ⟨g, fp, wr, Gq, _, F, St, _, rfl, W, hst, htr, fun s' hmv => ?_⟩)
    obtain ⟨H2, hT2, J⟩ := hI s' hmv
    refine ⟨.bl _, H2, J, rfl, ?_⟩
    rw [trAt_all]
    exact hQ H2 hT2
  obtain ⟨ps, hP, ht⟩ := id hT
  have hPs : s1.heap.get? P = some { cls := .none, data := .fields ps } := I1.hok P _ hP
  have item : ∀ (its : List Value), Vals vs its → EltI X P scope x elt s1 (fun i v => its.toArray[i]? = some v) (trAt f vs) := by
    intro its rv cenv A' E' i v s₂ m₂ c1 c2 c3 hA hU hv hn hmx hk
    have hv2 : its[i]? = some v := by simpa using hv
    obtain ⟨hl, _⟩ := List.getElem?_eq_some_iff.mp hv2
    rw [← rv.length] at hl
    have hz := List.getElem?_eq_getElem hl
    obtain ⟨u, hu, ru⟩ := rv.get hz
    rw [hv2] at hu
    cases hu
    have e : trAt f vs i = f vs[i] := by
      unfold trAt
      rw [hz]
    rw [e]
    exact hel pins σ H1 s1 vs[i] (f vs[i]) I1 hT (hG _ (List.getElem_mem hl)) cenv A' E' v s₂ m₂ c1 c2 c3 hA hU ru hn hmx hk
  rcases hq with hq | hq
  · obtain ⟨its, rv, pl, _⟩ := I1.list hq
    have hIL := pl.isList
    obtain ⟨ob, e1, e2⟩ := id hIL
    have aP : a ≠ P := fun z => by
      rw [z, hPs] at e1
      cases e1
      obtain ⟨_, _, e4⟩ := e2
      cases e4
    refine gen_run (Q' := fun v s5 => wpAny (model X.prog X.w) X.A (spliced (backTo pos (starEach [] X.env))) (fun ws s6 => wpAny (model X.prog X.w) X.A (call (.builtin "all") (v :: ws)) (EP X pins σ Q) X.xe s6) X.xe s5) (n := its.toArray.size) (Pf := fun i v => its.toArray[i]? = some v) (fp := [s1.heap.objs.size, a]) hr TB hcode I1 hT (fun Q₂ q => wpAny_pyIter_list hIL q) (fun A' hA => Walks.list hA _ _ (Nat.ne_of_lt (Heap.lt_size e1)) _) (fun h3 hx => ⟨?_, ?_⟩) ?_ (item its rv) (fun g s5 hR => ?_)
    · exact ⟨_, hx _ _ (Nat.ne_of_gt (Heap.lt_size hPs)) (Heap.get?_push_size _ rfl), rfl, rfl⟩
    · exact ⟨ob, hx _ _ aP (Heap.get?_push_of_some _ e1), e2⟩
    · intro b hb
      rcases List.mem_cons.mp hb with z | z
      · rw [z]
        exact Nat.le_refl _
      · rw [List.mem_singleton.mp z]
        exact Nat.le_of_lt (Heap.lt_size e1)
    · exact done its.toArray.size (by rw [List.size_toArray, rv.length]) g s5 hR
  · obtain ⟨its, rv, pl, _⟩ := I1.tuple hq
    have hIL : s1.heap.IsTuple a its.toArray := pl
    obtain ⟨ob, e1, e2⟩ := id hIL
    have aP : a ≠ P := fun z => by
      rw [z, hPs] at e1
      cases e1
      obtain ⟨_, _, e4⟩ := e2
      cases e4
    refine gen_run (Q' := fun v s5 => wpAny (model X.prog X.w) X.A (spliced (backTo pos (starEach [] X.env))) (fun ws s6 => wpAny (model X.prog X.w) X.A (call (.builtin "all") (v :: ws)) (EP X pins σ Q) X.xe s6) X.xe s5) (n := its.toArray.size) (Pf := fun i v => its.toArray[i]? = some v) (fp := [s1.heap.objs.size, a]) hr TB hcode I1 hT (fun Q₂ q => wpAny_pyIter_tuple hIL q) (fun A' hA => Walks.tuple hA _ _ (Nat.ne_of_lt (Heap.lt_size e1)) _) (fun h3 hx => ⟨?_, ?_⟩) ?_ (item its rv) (fun g s5 hR => ?_)
    · exact ⟨_, hx _ _ (Nat.ne_of_gt (Heap.lt_size hPs)) (Heap.get?_push_size _ rfl), rfl, rfl⟩
    · exact ⟨ob, hx _ _ aP (Heap.get?_push_of_some _ e1), e2⟩
    · intro b hb
      rcases List.mem_cons.mp hb with z | z
      · rw [z]
        exact Nat.le_refl _
      · rw [List.mem_singleton.mp z]
        exact Nat.le_of_lt (Heap.lt_size e1)
    · exact done its.toArray.size (by rw [List.size_toArray, rv.length]) g s5 hR
/-- 0 <= x < y, y a captured name that stands in the slot j -/
def GBelow (j : Nat) : L2.St → Hp → V → Bool → Prop := fun σ _ v b => ∃ n L : Int, v = .int n ∧ σ[j]? = some (some (.int L)) ∧ b = (decide (0 ≤ n) && decide (n < L))
theorem elt_below {P : Addr} {scope : Scope} {x y : Str} {j jc : Nat} {p0 p1 p2 p3 : Pos} (hk : scope.kind = .function) (hx : scope.names.lookup x = some .local) (hy : scope.names.lookup y = some .free) (hN : X.N[j]? = some y) (hv : X.env.scope.names.lookup y = some .cell)
    (hclo : (cloFrom X.env.cells scope.names []).lookup y = some ((X.env.cells.lookup y).getD 0))
    (hd : (x == ("__debug__" : Str)) = false := by decide) (hd2 : (y == ("__debug__" : Str)) = false := by decide) (hcd : (y == ("__classdict__" : Str)) = false := by decide) :
    EltB X P scope x (.Compare (.Constant (.int 0) jc p0) [.LtE, .Lt] [.Name x p1, .Name y p2] p3) (GBelow j) := by
  rintro pins σ H s1 v b I ⟨ps, hT, _⟩ ⟨n, L, rfl, hj, rfl⟩ cenv A' E' u s₂ m₂ rfl c2 _ _ _ ru hn hm kept
  obtain ⟨t, rfl⟩ := (show ∃ t, u = Value.int n t from ru)
  obtain ⟨m, _, hl⟩ := I.loc
  obtain ⟨uL, rL, look⟩ := hl j y _ hN hj (.inr (.inl hv))
  obtain ⟨tL, rfl⟩ := (show ∃ t, uL = Value.int L t from rL)
  have hP : s1.heap.get? P = some { cls := .none, data := .fields ps } := I.hok P _ hT
  rcases look with ⟨z, _⟩ | ⟨_, cc, hc, hcell⟩
  · rw [show X.env.kindOf y = X.env.scope.names.lookup y from rfl, hv] at z
    cases z
  · have hcell2 : s₂.heap.IsCell cc (some (.int L tL)) := by
      obtain ⟨o, e1, e2⟩ := hcell
      refine ⟨o, kept cc o (fun z => ?_) e1, e2⟩
      rw [z, hP] at e1
      cases e1
      cases e2
    refine Compare_chain (wpAny_Constant_int (chain_link ?_))
    refine wpAny_Name (wpAny_loadName_local hk hx hn hm ?_) hd
    refine le_int (wpAny_truthy_bool ?_)
    by_cases c0 : 0 ≤ n
    · rw [decide_eq_true c0, Bool.true_and]
      refine ite_tt (chain_last (wpAny_Name (wpAny_loadName_free hk hy (c := cc) ?_ hcell2 ?_ hcd) hd2))
      · rw [c2, hclo, hc] <;> rfl
      · exact lt_int ⟨rfl, keeps_tok _ _⟩
    · rw [decide_eq_false c0, Bool.false_and]
      exact ite_ff ⟨rfl, keeps_tok _ _⟩
end
end Mz

set_option Elab.async false
set_option linter.all false
set_option maxRecDepth 100000
set_option maxHeartbeats 4000000
/-! what the laws' own helpers draw: numbers, sizes, machines -/
namespace Mz
open PySem PySem.Spec PyProof.Rows L2
theorem same_upd {H H' : Hp} {p : Addr} {o : HO} (s : Same H H') (h : H' p = none) : Same H (upd H' p o) := fun b u e => by
  rw [upd_ne (ne_of_none (s b u e) h)]
  exact s b u e
theorem same_set {H H' : Hp} {p : Addr} {o : HO} (s : Same H H') (h : H p = none) : Same H (L2.upd H' p o) := fun b u e => by
  rw [upd_ne (ne_of_none e h)]
  exact s b u e
theorem getV {α : Type} {f : α → V} {ns : List α} {j : Nat} {z : α} (h : ns[j]? = some z) : (ns.map f)[j]? = some (f z) := by
  rw [List.getElem?_map, h]
  rfl
theorem ofV {α : Type} {f : α → V} {ns : List α} {j : Nat} {y : V} (h : (ns.map f)[j]? = some y) : ∃ z, ns[j]? = some z ∧ y = f z := by
  rw [List.getElem?_map] at h
  cases e : ns[j]? with
  | none =>
    rw [e] at h
    cases h
  | some z =>
    rw [e] at h
    exact ⟨z, rfl, (Option.some.inj h).symm⟩
theorem atI_get? {α : Type} {f : α → V} {ns : List α} {i : Int} {z : α} (h0 : 0 ≤ i) (h : ns[i.toNat]? = some z) : atI (ns.map f) i = some (f z) := by
  have e : i = ((i.toNat : Nat) : Int) := by omega
  rw [e]
  exact atI_nat (getV h)
theorem take_more {α : Type} : ∀ {l : List α} {i : Nat} {x : α}, l[i]? = some x → l.take (i + 1) = l.take i ++ [x]
  | [], i, x, h => by simp at h
  | a :: l, 0, x, h => by
    have e : a = x := Option.some.inj h
    subst e
    rfl
  | a :: l, i + 1, x, h => by
    have ih := take_more (l := l) (i := i) (x := x) h
    show a :: l.take (i + 1) = a :: l.take i ++ [x]
    rw [ih]
    rfl
/-! ### the numbers -/
/-- what a stream holds -/
structure Strm (ns : List Int) : Prop where
  ne : 0 < ns.length
  few : ns.length ≤ 4000
  ok : ∀ z ∈ ns, 0 ≤ z ∧ z < 1009
/-- the number at a place, below many -/
def pk (ns : List Int) (i many : Int) : Int := ns.getD (i % (ns.length : Int)).toNat 0 % many
theorem pk_lo {ns : List Int} {i many : Int} (h : 0 < many) : 0 ≤ pk ns i many := Int.emod_nonneg _ (by omega)
theorem pk_hi {ns : List Int} {i many : Int} (h : 0 < many) : pk ns i many < many := Int.emod_lt_of_pos _ h
theorem pk_at {ns : List Int} (i : Int) (h : 0 < ns.length) : ∃ z, ns[(i % (ns.length : Int)).toNat]? = some z ∧ ns.getD (i % (ns.length : Int)).toNat 0 = z ∧ 0 ≤ i % (ns.length : Int) := by
  have h0 := Int.emod_nonneg i (show (ns.length : Int) ≠ 0 by omega)
  have h1 := Int.emod_lt_of_pos i (show 0 < (ns.length : Int) by omega)
  have lt : (i % (ns.length : Int)).toNat < ns.length := by omega
  refine ⟨ns[(i % (ns.length : Int)).toNat], List.getElem?_eq_getElem lt, ?_, h0⟩
  rw [List.getD_eq_getElem?_getD, List.getElem?_eq_getElem lt]
  rfl
/-! ### machines -/
structure Mach where
  ls : Int
  os : Int
  rows : List (List Int)
  outs : List Int
/-- a tuple of ints -/
def IT (H : Hp) (a : Addr) (ns : List Int) : Prop := H a = some (.tup (ns.map V.int))
/-- the machine M stands at m -/
structure MAt (H : Hp) (m : Addr) (M : Mach) (mv ou : Addr) (rs : List Addr) : Prop where
  top : H m = some (.tup [.int M.ls, .int M.os, .ref mv, .ref ou])
  mv : H mv = some (.tup (rs.map V.ref))
  ou : IT H ou M.outs
  len : rs.length = M.rows.length
  row : ∀ (i : Nat) (r : Addr) (w : List Int), rs[i]? = some r → M.rows[i]? = some w → IT H r w
def MA (H : Hp) (m : Addr) (M : Mach) : Prop := ∃ mv ou rs, MAt H m M mv ou rs
theorem MAt.same {H H' : Hp} {m : Addr} {M : Mach} {mv ou : Addr} {rs : List Addr} (h : MAt H m M mv ou rs) (s : Same H H') : MAt H' m M mv ou rs :=
  ⟨s _ _ h.top, s _ _ h.mv, s _ _ h.ou, h.len, fun i r w a b => s _ _ (h.row i r w a b)⟩
theorem MA.same {H H' : Hp} {m : Addr} {M : Mach} (h : MA H m M) (s : Same H H') : MA H' m M := by
  obtain ⟨mv, ou, rs, h⟩ := h
  exact ⟨mv, ou, rs, h.same s⟩
/-- what check_machine asks -/
structure Good (M : Mach) : Prop where
  l1 : 1 ≤ M.ls
  l4 : M.ls ≤ 4
  o1 : 1 ≤ M.os
  o6 : M.os ≤ 6
  s1 : 1 ≤ M.rows.length
  s30 : M.rows.length ≤ 30
  ol : M.outs.length = M.rows.length
  rl : ∀ w ∈ M.rows, (w.length : Int) = M.ls
  rb : ∀ w ∈ M.rows, ∀ z ∈ w, 0 ≤ z ∧ z < (M.rows.length : Int)
  ob : ∀ z ∈ M.outs, 0 ≤ z ∧ z < M.os
/-- the next state -/
def Mach.next (M : Mach) (s a : Int) : Int := (M.rows.getD s.toNat []).getD a.toNat 0
def Mach.run (M : Mach) (s : Int) (w : List Int) : Int := w.foldl M.next s
def Mach.out (M : Mach) (s : Int) : Int := M.outs.getD s.toNat 0
/-- a state -/
def Mach.St (M : Mach) (s : Int) : Prop := 0 ≤ s ∧ s < (M.rows.length : Int)
/-- letters -/
def Lt (k : Int) (w : List Int) : Prop := ∀ z ∈ w, 0 ≤ z ∧ z < k
theorem Good.st0 {M : Mach} (g : Good M) : M.St 0 := ⟨by decide, by have := g.s1; omega⟩
theorem Good.row {M : Mach} (g : Good M) {s : Int} (h : M.St s) : ∃ w, M.rows[s.toNat]? = some w ∧ w ∈ M.rows ∧ M.rows.getD s.toNat [] = w := by
  have lt : s.toNat < M.rows.length := by have := h.1; have := h.2; omega
  refine ⟨M.rows[s.toNat], List.getElem?_eq_getElem lt, List.getElem_mem lt, ?_⟩
  rw [List.getD_eq_getElem?_getD, List.getElem?_eq_getElem lt]
  rfl
theorem Good.step {M : Mach} (g : Good M) {s a : Int} (h : M.St s) (h0 : 0 ≤ a) (h1 : a < M.ls) : M.St (M.next s a) ∧ ∃ w, M.rows[s.toNat]? = some w ∧ w[a.toNat]? = some (M.next s a) := by
  obtain ⟨w, e1, e2, e3⟩ := g.row h
  have l := g.rl w e2
  have lt : a.toNat < w.length := by omega
  have e : M.next s a = w[a.toNat] := by
    unfold Mach.next
    rw [e3, List.getD_eq_getElem?_getD, List.getElem?_eq_getElem lt]
    rfl
  rw [e]
  exact ⟨g.rb w e2 _ (List.getElem_mem lt), w, e1, List.getElem?_eq_getElem lt⟩
theorem Good.outp {M : Mach} (g : Good M) {s : Int} (h : M.St s) : M.outs[s.toNat]? = some (M.out s) ∧ 0 ≤ M.out s ∧ M.out s < M.os := by
  have lt : s.toNat < M.outs.length := by have := h.1; have := h.2; have := g.ol; omega
  have e : M.out s = M.outs[s.toNat] := by
    unfold Mach.out
    rw [List.getD_eq_getElem?_getD, List.getElem?_eq_getElem lt]
    rfl
  rw [e]
  exact ⟨List.getElem?_eq_getElem lt, g.ob _ (List.getElem_mem lt)⟩
theorem Good.runs {M : Mach} (g : Good M) : ∀ {w : List Int} {s : Int}, M.St s → Lt M.ls w → M.St (M.run s w)
  | [], s, h, _ => h
  | a :: w, s, h, hw => Good.runs g (w := w) (g.step h (hw a (.head _)).1 (hw a (.head _)).2).1 fun z hz => hw z (.tail _ hz)
theorem run_snoc (M : Mach) (s : Int) (w : List Int) (a : Int) : M.run s (w ++ [a]) = M.next (M.run s w) a := by
  unfold Mach.run
  rw [List.foldl_append]
  rfl
/-! ### reading the parts of a machine -/
section
variable {K : PySem.W.Frag} {H : Hp} {m : Addr} {M : Mach} {mv ou : Addr} {rs : List Addr}
theorem MAt.rowAt (h : MAt H m M mv ou rs) {s : Int} (h0 : 0 ≤ s) {w : List Int} (e : M.rows[s.toNat]? = some w) : ∃ r, atI (rs.map V.ref) s = some (.ref r) ∧ IT H r w := by
  obtain ⟨lt, _⟩ := List.getElem?_eq_some_iff.mp e
  have lt2 : s.toNat < rs.length := by rw [h.len]; exact lt
  exact ⟨rs[s.toNat], atI_get? h0 (List.getElem?_eq_getElem lt2), h.row _ _ _ (List.getElem?_eq_getElem lt2) e⟩
end
end Mz

set_option Elab.async false
set_option linter.all false
set_option maxRecDepth 100000
set_option maxHeartbeats 4000000
/-! words in their order as numbers; pairs of states; the first word that parts a pair -/
namespace Mz
open PySem PySem.Spec PyProof.Rows L2
/-- words of letters below 4, in their order -/
def code (w : List Int) : Nat := w.foldl (fun n a => 5 * n + a.toNat + 1) 0
theorem code_snoc (w : List Int) (a : Int) : code (w ++ [a]) = 5 * code w + a.toNat + 1 := by
  unfold code
  rw [List.foldl_append]
  rfl
theorem snoc_ind {α : Type} {P : List α → Prop} (h0 : P []) (hs : ∀ w a, P w → P (w ++ [a])) (w : List α) : P w := by
  have key : ∀ (n : Nat) (w : List α), w.length = n → P w := by
    intro n
    induction n with
    | zero => intro w e; rw [List.length_eq_zero_iff.mp e]; exact h0
    | succ n ih =>
      intro w e
      have ne : w ≠ [] := fun z => by rw [z] at e; cases e
      rw [← List.dropLast_concat_getLast ne]
      exact hs _ _ (ih _ (by rw [List.length_dropLast, e]; rfl))
  exact key _ w rfl
theorem code_inj {k : Int} (hk : k ≤ 4) : ∀ (u v : List Int), Lt k u → Lt k v → code u = code v → u = v := by
  intro u
  induction u using snoc_ind with
  | h0 =>
    intro v _ hv e
    induction v using snoc_ind with
    | h0 => rfl
    | hs v b _ =>
      rw [code_snoc] at e
      have : code ([] : List Int) = 0 := rfl
      omega
  | hs u a ih =>
    intro v hu hv e
    induction v using snoc_ind with
    | h0 =>
      rw [code_snoc] at e
      have : code ([] : List Int) = 0 := rfl
      omega
    | hs v b _ =>
      rw [code_snoc, code_snoc] at e
      have ha := hu a (by simp)
      have hb := hv b (by simp)
      have e1 : a = b := by omega
      subst e1
      rw [ih v (fun z hz => hu z (by simp [hz])) (fun z hz => hv z (by simp [hz])) (by omega)]
theorem code_cons (a : Int) : ∀ w : List Int, code (a :: w) = (a.toNat + 1) * 5 ^ w.length + code w := by
  intro w
  induction w using snoc_ind with
  | h0 =>
    show 5 * 0 + a.toNat + 1 = (a.toNat + 1) * 5 ^ 0 + 0
    omega
  | hs w b ih =>
    rw [← List.cons_append, code_snoc, code_snoc, ih, List.length_append, List.length_singleton, Nat.pow_succ]
    have e : (a.toNat + 1) * (5 ^ w.length * 5) = 5 * ((a.toNat + 1) * 5 ^ w.length) := by
      rw [← Nat.mul_assoc, Nat.mul_comm]
    rw [e]
    omega
theorem code_lt {k : Int} (hk : k ≤ 4) : ∀ {w : List Int}, Lt k w → code w < 5 ^ w.length := by
  intro w
  induction w using snoc_ind with
  | h0 => intro _; show 0 < 1; omega
  | hs w b ih =>
    intro h
    have i := ih fun z hz => h z (by simp [hz])
    have hb := h b (by simp)
    rw [code_snoc, List.length_append, List.length_singleton, Nat.pow_succ]
    omega
theorem code_ge : ∀ w : List Int, 5 ^ w.length ≤ 4 * code w + 1 := by
  intro w
  induction w using snoc_ind with
  | h0 => show 1 ≤ _; omega
  | hs w b ih =>
    rw [code_snoc, List.length_append, List.length_singleton, Nat.pow_succ]
    omega
/-- a shorter word comes first -/
theorem code_short {k : Int} (hk : k ≤ 4) {u v : List Int} (hu : Lt k u) (h : u.length < v.length) : code u < code v := by
  have h1 := code_lt hk hu
  have h2 := code_ge v
  have h3 : 5 ^ (u.length + 1) ≤ 5 ^ v.length := Nat.pow_le_pow_right (by decide) h
  rw [Nat.pow_succ] at h3
  omega
/-! ### pairs of states -/
abbrev Pr := Int × Int
section
variable (M N : Mach)
def stepP (p : Pr) (a : Int) : Pr := (M.next p.1 a, N.next p.2 a)
def runP (p : Pr) (w : List Int) : Pr := w.foldl (stepP M N) p
def Bad (p : Pr) : Prop := M.out p.1 ≠ N.out p.2
/-- both are states -/
def InP (p : Pr) : Prop := M.St p.1 ∧ N.St p.2
/-- machines of a kind -/
structure Kin : Prop where
  gm : Good M
  gn : Good N
  ls : M.ls = N.ls
/-- w is the first word that parts p -/
structure Part (p : Pr) (w : List Int) : Prop where
  lt : Lt M.ls w
  bad : Bad M N (runP M N p w)
  min : ∀ v, Lt M.ls v → Bad M N (runP M N p v) → code w ≤ code v
/-- no word parts p -/
def NoPart (p : Pr) : Prop := ∀ v, Lt M.ls v → ¬ Bad M N (runP M N p v)
end
section
variable {M N : Mach}
theorem runP_snoc (p : Pr) (w : List Int) (a : Int) : runP M N p (w ++ [a]) = stepP M N (runP M N p w) a := by
  unfold runP
  rw [List.foldl_append]
  rfl
theorem runP_cons (p : Pr) (w : List Int) (a : Int) : runP M N p (a :: w) = runP M N (stepP M N p a) w := rfl
theorem Kin.step (k : Kin M N) {p : Pr} (h : InP M N p) {a : Int} (h0 : 0 ≤ a) (h1 : a < M.ls) : InP M N (stepP M N p a) :=
  ⟨(k.gm.step h.1 h0 h1).1, (k.gn.step h.2 h0 (by rw [← k.ls]; exact h1)).1⟩
theorem Part.uniq (k : Kin M N) {p : Pr} {u v : List Int} (hu : Part M N p u) (hv : Part M N p v) : u = v :=
  code_inj k.gm.l4 u v hu.lt hv.lt (Nat.le_antisymm (hu.min v hv.lt hv.bad) (hv.min u hu.lt hu.bad))
theorem Part.not (k : Kin M N) {p : Pr} {u : List Int} (hu : Part M N p u) (hn : NoPart M N p) : False := hn u hu.lt hu.bad
theorem lt_snoc {k : Int} {w : List Int} {a : Int} : Lt k (w ++ [a]) ↔ Lt k w ∧ 0 ≤ a ∧ a < k := by
  constructor
  · intro h
    exact ⟨fun z hz => h z (by simp [hz]), h a (by simp)⟩
  · rintro ⟨h1, h2⟩ z hz
    rcases List.mem_append.mp hz with e | e
    · exact h1 z e
    · rw [List.mem_singleton.mp e]
      exact h2
/-! ### the search by widths -/
structure Nd where
  pr : Pr
  wd : List Int
  ta : Addr
  wa : Addr
/-- all places below pl are done, at pl the letters below a -/
structure Bfs (M N : Mach) (st : Pr) (L : List Nd) (pl a : Nat) : Prop where
  fst : ∃ n, L[0]? = some n ∧ n.pr = st ∧ n.wd = []
  inc : ∀ (i j : Nat) (x y : Nd), L[i]? = some x → L[j]? = some y → i < j → code x.wd < code y.wd
  run : ∀ x ∈ L, runP M N st x.wd = x.pr ∧ Lt M.ls x.wd ∧ InP M N x.pr
  done : ∀ (i b : Nat) (x : Nd), L[i]? = some x → (i < pl ∨ i = pl ∧ b < a) → (b : Int) < M.ls → ∃ y ∈ L, y.pr = stepP M N x.pr b ∧ code y.wd ≤ 5 * code x.wd + b + 1
  good : ∀ (i : Nat) (x : Nd), L[i]? = some x → (i < pl ∨ i = pl ∧ 0 < a) → ¬ Bad M N x.pr
  gen : ∀ (j : Nat) (y : Nd), L[j]? = some y → code y.wd = 0 ∨ ∃ (i b : Nat) (x : Nd), L[i]? = some x ∧ (i < pl ∨ i = pl ∧ b < a) ∧ (b : Int) < M.ls ∧ code y.wd = 5 * code x.wd + b + 1
  nod : (L.map (·.pr)).Nodup
  len : ∀ x ∈ L, x.wd.length ≤ L.length
theorem Bfs.here {st : Pr} {L : List Nd} {pl a : Nat} (B : Bfs M N st L pl a) {i : Nat} {x : Nd} (h : L[i]? = some x) : x ∈ L := List.mem_of_getElem? h
theorem Bfs.start (k : Kin M N) {st : Pr} (h : InP M N st) {t w : Addr} : Bfs M N st [⟨st, [], t, w⟩] 0 0 where
  fst := ⟨_, rfl, rfl, rfl⟩
  inc := fun i j x y hi hj lt => by
    have h1 := (List.getElem?_eq_some_iff.mp hj).1
    simp at h1
    omega
  run := fun x hx => by
    rw [List.mem_singleton.mp hx]
    exact ⟨rfl, fun z hz => absurd hz (by simp), h⟩
  done := fun i b x _ o => by
    rcases o with o | o
    · exact absurd o (Nat.not_lt_zero _)
    · exact absurd o.2 (Nat.not_lt_zero _)
  good := fun i x _ o => by
    rcases o with o | o
    · exact absurd o (Nat.not_lt_zero _)
    · exact absurd o.2 (Nat.not_lt_zero _)
  gen := fun j y hy => by
    rw [List.mem_singleton.mp (List.mem_of_getElem? hy)]
    exact .inl rfl
  nod := by simp
  len := fun x hx => by
    rw [List.mem_singleton.mp hx]
    exact Nat.zero_le _
/-- each word is led by a done place, or not before the place -/
theorem Bfs.claim (k : Kin M N) {st : Pr} {L : List Nd} {pl : Nat} (B : Bfs M N st L pl 0) : ∀ v : List Int, Lt M.ls v →
    (∃ (i : Nat) (x : Nd), L[i]? = some x ∧ i < pl ∧ x.pr = runP M N st v ∧ code x.wd ≤ code v) ∨ ∃ (i : Nat) (x : Nd), L[i]? = some x ∧ pl ≤ i ∧ code x.wd ≤ code v := by
  intro v
  induction v using snoc_ind with
  | h0 =>
    intro _
    obtain ⟨n, e, e1, e2⟩ := B.fst
    by_cases h : 0 < pl
    · exact .inl ⟨0, n, e, h, e1, by rw [e2]; exact Nat.le_refl _⟩
    · exact .inr ⟨0, n, e, by omega, by rw [e2]; exact Nat.le_refl _⟩
  | hs v a ih =>
    intro hv
    obtain ⟨hv1, a0, a1⟩ := lt_snoc.mp hv
    rw [code_snoc]
    rcases ih hv1 with ⟨i, x, e, lt, e1, e2⟩ | ⟨i, x, e, le, e2⟩
    · obtain ⟨y, hy, y1, y2⟩ := B.done i a.toNat x e (.inl lt) (by omega)
      obtain ⟨j, hj, ej⟩ := List.getElem_of_mem hy
      have hj2 : L[j]? = some y := by rw [List.getElem?_eq_getElem hj, ej]
      have ea : ((a.toNat : Nat) : Int) = a := by omega
      by_cases h : j < pl
      · exact .inl ⟨j, y, hj2, h, by rw [runP_snoc, ← e1, y1, ea], by omega⟩
      · exact .inr ⟨j, y, hj2, by omega, by omega⟩
    · exact .inr ⟨i, x, e, le, by omega⟩
theorem Bfs.found (k : Kin M N) {st : Pr} {L : List Nd} {pl : Nat} (B : Bfs M N st L pl 0) {x : Nd} (hx : L[pl]? = some x) (hb : Bad M N x.pr) : Part M N st x.wd where
  lt := (B.run x (B.here hx)).2.1
  bad := by
    rw [(B.run x (B.here hx)).1]
    exact hb
  min := fun v hv hb2 => by
    rcases B.claim k v hv with ⟨i, y, e, lt, e1, e2⟩ | ⟨i, y, e, le, e2⟩
    · rw [← e1] at hb2
      exact absurd hb2 (B.good i y e (.inl lt))
    · by_cases h : pl = i
      · subst h
        rw [hx] at e
        cases e
        exact e2
      · have := B.inc pl i x y hx e (by omega)
        omega
theorem Bfs.none (k : Kin M N) {st : Pr} {L : List Nd} (B : Bfs M N st L L.length 0) : NoPart M N st := fun v hv hb => by
  rcases B.claim k v hv with ⟨i, y, e, lt, e1, e2⟩ | ⟨i, y, e, le, e2⟩
  · rw [← e1] at hb
    exact B.good i y e (.inl lt) hb
  · have := (List.getElem?_eq_some_iff.mp e).1
    omega
theorem Bfs.enter {st : Pr} {L : List Nd} {pl : Nat} (B : Bfs M N st L pl 0) {x : Nd} (hx : L[pl]? = some x) (hb : ¬ Bad M N x.pr) : True := trivial
/-- the letter's pair is there -/
theorem Bfs.old (k : Kin M N) {st : Pr} {L : List Nd} {pl a : Nat} (B : Bfs M N st L pl a) {x : Nd} (hx : L[pl]? = some x) (hb : ¬ Bad M N x.pr) (ha : (a : Int) < M.ls) {y : Nd} (hy : y ∈ L) (e : y.pr = stepP M N x.pr a) : Bfs M N st L pl (a + 1) where
  fst := B.fst
  inc := B.inc
  run := B.run
  done := fun i b z hz o hb2 => by
    rcases o with o | ⟨o1, o2⟩
    · exact B.done i b z hz (.inl o) hb2
    · by_cases h : b = a
      · subst h o1
        rw [hx] at hz
        cases hz
        refine ⟨y, hy, e, ?_⟩
        obtain ⟨j, hj, ej⟩ := List.getElem_of_mem hy
        have hj2 : L[j]? = some y := by rw [List.getElem?_eq_getElem hj, ej]
        rcases B.gen j y hj2 with q | ⟨i2, b2, x2, q1, q2, q3, q4⟩
        · omega
        · rcases q2 with q2 | ⟨q2, q5⟩
          · have := B.inc i2 i x2 x q1 hx q2
            have := k.gm.l4
            omega
          · subst q2
            rw [hx] at q1
            cases q1
            omega
      · exact B.done i b z hz (.inr ⟨o1, by omega⟩) hb2
  good := fun i z hz o => by
    rcases o with o | ⟨o1, o2⟩
    · exact B.good i z hz (.inl o)
    · subst o1
      rw [hx] at hz
      cases hz
      exact hb
  gen := fun j z hz => by
    rcases B.gen j z hz with q | ⟨i2, b2, x2, q1, q2, q3, q4⟩
    · exact .inl q
    · refine .inr ⟨i2, b2, x2, q1, ?_, q3, q4⟩
      rcases q2 with q2 | ⟨q2, q5⟩
      · exact .inl q2
      · exact .inr ⟨q2, by omega⟩
  nod := B.nod
  len := B.len
theorem get_app {α : Type} {l : List α} {z y : α} {i : Nat} (h : (l ++ [z])[i]? = some y) : l[i]? = some y ∨ (i = l.length ∧ y = z) := by
  by_cases c : i < l.length
  · rw [List.getElem?_append_left c] at h
    exact .inl h
  · have lt := (List.getElem?_eq_some_iff.mp h).1
    rw [List.length_append, List.length_singleton] at lt
    have e : i = l.length := by omega
    subst e
    rw [List.getElem?_append_right (Nat.le_refl _), Nat.sub_self] at h
    cases h
    exact .inr ⟨rfl, rfl⟩
theorem get_app1 {α : Type} {l : List α} {z y : α} {i : Nat} (h : l[i]? = some y) : (l ++ [z])[i]? = some y := by
  rw [List.getElem?_append_left (List.getElem?_eq_some_iff.mp h).1]
  exact h
/-- the letter's pair is new -/
theorem Bfs.push (k : Kin M N) {st : Pr} {L : List Nd} {pl a : Nat} (B : Bfs M N st L pl a) {x : Nd} (hx : L[pl]? = some x) (hb : ¬ Bad M N x.pr) (ha : (a : Int) < M.ls) {t w : Addr} (new : ∀ y ∈ L, y.pr ≠ stepP M N x.pr a) :
    Bfs M N st (L ++ [⟨stepP M N x.pr a, x.wd ++ [(a : Int)], t, w⟩]) pl (a + 1) := by
  have l4 := k.gm.l4
  have big : ∀ (j : Nat) (y : Nd), L[j]? = some y → code y.wd < 5 * code x.wd + a + 1 := fun j y hy => by
    rcases B.gen j y hy with q | ⟨i2, b2, x2, q1, q2, q3, q4⟩
    · omega
    · rcases q2 with q2 | ⟨q2, q5⟩
      · have := B.inc i2 pl x2 x q1 hx q2
        omega
      · subst q2
        rw [hx] at q1
        cases q1
        omega
  have cn : code (x.wd ++ [(a : Int)]) = 5 * code x.wd + a + 1 := by rw [code_snoc]; omega
  obtain ⟨r1, r2, r3⟩ := B.run x (B.here hx)
  refine ⟨?_, ?_, ?_, ?_, ?_, ?_, ?_, ?_⟩
  · obtain ⟨n, e, e2⟩ := B.fst
    exact ⟨n, get_app1 e, e2⟩
  · intro i j u v hu hv lt
    rcases get_app hv with hv | ⟨ev, rfl⟩
    · rcases get_app hu with hu | ⟨eu, rfl⟩
      · exact B.inc i j u v hu hv lt
      · have := (List.getElem?_eq_some_iff.mp hv).1
        omega
    · rcases get_app hu with hu | ⟨eu, rfl⟩
      · show code u.wd < code (x.wd ++ [(a : Int)])
        rw [cn]
        exact big i u hu
      · omega
  · intro y hy
    rcases List.mem_append.mp hy with e | e
    · exact B.run y e
    · rw [List.mem_singleton.mp e]
      exact ⟨by rw [runP_snoc, r1], lt_snoc.mpr ⟨r2, by omega, ha⟩, k.step r3 (by omega) ha⟩
  · intro i b z hz o hb2
    have old : ∀ {y : Nd}, L[i]? = some z → ((i < pl) ∨ (i = pl ∧ b < a)) → ∃ y ∈ L ++ [⟨stepP M N x.pr a, x.wd ++ [(a : Int)], t, w⟩], y.pr = stepP M N z.pr b ∧ code y.wd ≤ 5 * code z.wd + b + 1 := fun {y} h1 h2 => by
      obtain ⟨y, hy, q⟩ := B.done i b z h1 h2 hb2
      exact ⟨y, List.mem_append.mpr (.inl hy), q⟩
    have lt : i < L.length := by
      have := (List.getElem?_eq_some_iff.mp hx).1
      omega
    rcases get_app hz with h0 | ⟨ez, _⟩
    · rcases o with o | ⟨o1, o2⟩
      · exact old (y := x) h0 (.inl o)
      · by_cases h : b = a
        · subst h o1
          rw [hx] at h0
          cases h0
          exact ⟨_, List.mem_append.mpr (.inr List.mem_cons_self), rfl, by show code (x.wd ++ [(b : Int)]) ≤ _; rw [cn]; omega⟩
        · exact old (y := x) h0 (.inr ⟨o1, by omega⟩)
    · omega
  · intro i z hz o
    have lt : i < L.length := by
      have := (List.getElem?_eq_some_iff.mp hx).1
      omega
    rcases get_app hz with hz | ⟨ez, _⟩
    · rcases o with o | ⟨o1, o2⟩
      · exact B.good i z hz (.inl o)
      · subst o1
        rw [hx] at hz
        cases hz
        exact hb
    · omega
  · intro j z hz
    rcases get_app hz with hz | ⟨ez, rfl⟩
    · rcases B.gen j z hz with q | ⟨i2, b2, x2, q1, q2, q3, q4⟩
      · exact .inl q
      · refine .inr ⟨i2, b2, x2, get_app1 q1, ?_, q3, q4⟩
        rcases q2 with q2 | ⟨q2, q5⟩
        · exact .inl q2
        · exact .inr ⟨q2, by omega⟩
    · exact .inr ⟨pl, a, x, get_app1 hx, .inr ⟨rfl, by omega⟩, ha, by rw [cn]⟩
  · rw [List.map_append]
    refine List.nodup_append.mpr ⟨B.nod, by simp, fun p hp q hq => ?_⟩
    obtain ⟨y, hy, rfl⟩ := List.mem_map.mp hp
    simp at hq
    rw [hq]
    exact new y hy
  · intro y hy
    rw [List.length_append, List.length_singleton]
    rcases List.mem_append.mp hy with e | e
    · have := B.len y e
      omega
    · rw [List.mem_singleton.mp e]
      show (x.wd ++ [(a : Int)]).length ≤ _
      rw [List.length_append, List.length_singleton]
      have := B.len x (B.here hx)
      omega
/-- on to the next place -/
theorem Bfs.next (k : Kin M N) {st : Pr} {L : List Nd} {pl : Nat} {a : Nat} (B : Bfs M N st L pl a) (ha : M.ls = a) : Bfs M N st L (pl + 1) 0 where
  fst := B.fst
  inc := B.inc
  run := B.run
  done := fun i b z hz o hb2 => by
    rcases o with o | ⟨_, o2⟩
    · by_cases h : i = pl
      · exact B.done i b z hz (.inr ⟨h, by omega⟩) hb2
      · exact B.done i b z hz (.inl (by omega)) hb2
    · exact absurd o2 (Nat.not_lt_zero _)
  good := fun i z hz o => by
    rcases o with o | ⟨_, o2⟩
    · by_cases h : i = pl
      · exact B.good i z hz (.inr ⟨h, by have := k.gm.l1; omega⟩)
      · exact B.good i z hz (.inl (by omega))
    · exact absurd o2 (Nat.not_lt_zero _)
  gen := fun j z hz => by
    rcases B.gen j z hz with q | ⟨i2, b2, x2, q1, q2, q3, q4⟩
    · exact .inl q
    · exact .inr ⟨i2, b2, x2, q1, .inl (by rcases q2 with q2 | q2 <;> omega), q3, q4⟩
  nod := B.nod
  len := B.len
end
/-! ### few pairs -/
theorem nodup_few : ∀ (m : Nat) (l : List Nat), l.Nodup → (∀ x ∈ l, x < m) → l.length ≤ m
  | 0, [], _, _ => Nat.le_refl _
  | 0, x :: _, _, h => absurd (h x List.mem_cons_self) (Nat.not_lt_zero _)
  | m + 1, l, hn, h => by
    have ih := nodup_few m (l.erase m) (hn.erase m) fun x hx => by
      have h1 := (List.Nodup.mem_erase_iff hn).mp hx
      have h2 := h x h1.2
      have h3 := h1.1
      omega
    have e := List.length_erase (a := m) (l := l)
    split at e <;> omega
theorem Bfs.few {M N : Mach} {st : Pr} {L : List Nd} {pl a : Nat} (k : Kin M N) (B : Bfs M N st L pl a) : L.length ≤ 900 := by
  have h := nodup_few 900 (L.map fun x => x.pr.1.toNat * 30 + x.pr.2.toNat) ?_ ?_
  · rw [List.length_map] at h
    exact h
  · have e : L.map (fun x => x.pr.1.toNat * 30 + x.pr.2.toNat) = (L.map (·.pr)).map fun p : Pr => p.1.toNat * 30 + p.2.toNat := by
      rw [List.map_map]
      rfl
    rw [e]
    refine List.Pairwise.map _ ?_ (List.Pairwise.and_mem.mp B.nod)
    rintro p q ⟨hp, hq, n⟩ z
    obtain ⟨x, hx, rfl⟩ := List.mem_map.mp hp
    obtain ⟨y, hy, rfl⟩ := List.mem_map.mp hq
    have i1 := (B.run x hx).2.2
    have i2 := (B.run y hy).2.2
    have := k.gn.s30
    have a1 := i1.1.1
    have a2 := i1.2.1
    have a3 := i1.2.2
    have b1 := i2.1.1
    have b2 := i2.2.1
    have b3 := i2.2.2
    exact n (Prod.ext (by omega) (by omega))
  · intro v hv
    obtain ⟨x, hx, rfl⟩ := List.mem_map.mp hv
    have i1 := (B.run x hx).2.2
    have := k.gn.s30
    have := k.gm.s30
    have a1 := i1.1.1
    have a4 := i1.1.2
    have a2 := i1.2.1
    have a3 := i1.2.2
    show x.pr.1.toNat * 30 + x.pr.2.toNat < 900
    omega
end Mz
namespace Mz
theorem part_or {M N : Mach} {p : Pr} : (∃ u, Part M N p u) ∨ NoPart M N p := by
  by_cases h : NoPart M N p
  · exact .inr h
  · refine .inl ?_
    have key : ∀ n : Nat, (∃ v, Lt M.ls v ∧ Bad M N (runP M N p v) ∧ code v ≤ n) → ∃ u, Part M N p u := by
      intro n
      induction n with
      | zero =>
        rintro ⟨v, h1, h2, h3⟩
        exact ⟨v, h1, h2, fun u _ _ => by omega⟩
      | succ n ih =>
        rintro ⟨v, h1, h2, h3⟩
        by_cases c : ∃ u, Lt M.ls u ∧ Bad M N (runP M N p u) ∧ code u ≤ n
        · exact ih c
        · exact ⟨v, h1, h2, fun u a b => Nat.le_of_not_lt fun z => c ⟨u, a, b, by omega⟩⟩
    have : ∃ v, Lt M.ls v ∧ Bad M N (runP M N p v) := Classical.byContradiction fun z => h fun v a b => z ⟨v, a, b⟩
    obtain ⟨v, a, b⟩ := this
    exact key _ ⟨v, a, b, Nat.le_refl _⟩
end Mz

set_option Elab.async false
set_option linter.all false
set_option maxRecDepth 100000
set_option maxHeartbeats 4000000
/-! a walk over a tuple while an error is handled -/
namespace Mz
open PySem PySem.Spec PyProof.Rows L2 L2H HotX
theorem next_tuple_end_hot {prog : Program} {w : World} {A : Around} {E : Value → Shared → Prop} {s : Shared} {it t x1 : Addr} {i : Nat} {items : Array Value} {Q : Option Value → Shared → Prop} (hot : HotAt A x1 s.heap)
    (hit : s.heap.IsTupleIter it t i) (ht : s.heap.IsTuple t items) (hx : items[i]? = none) (hQ : ∀ h', Heap.ExtBut it s.heap h' → Q none { s with heap := h' }) : wpAny (model prog w) A (pyNext (.ref it)) Q E s := by
  obtain ⟨o, ho, hc, hd⟩ := id hit
  obtain ⟨ol, hol, _, nl, hdl⟩ := ht
  obtain ⟨hh, o1, vs1, h1, d1, c1⟩ := hot
  have tT : s.TypeIs (.ref it) "tuple_iterator" := hit.typeIs
  unfold pyNext
  refine wpAny_bind (wpAny_attempt (wpAny_callSpecial?_slot (name := Str.ofString "__next__") tT F.slot_tuple_iterator_next (wpAny_call_entry F.slot_tuple_iterator_next tT F.entry_tuple_iterator_next ?_ (F.args_tuple_iterator_next_1 _))))
  show wpAny _ _ (field (.ref it) 0 >>= fun v => _) _ _ s
  refine wpAny_bind (wpAny_field ho hd (x := .ref t) rfl ?_)
  show wpAny _ _ (ite ((Value.ref t == Value.none) = true) _ _) _ _ s
  rw [if_neg (fun z : (Value.ref t == Value.none) = true => Bool.false_ne_true z)]
  show wpAny _ _ (field (.ref it) 1 >>= fun v => _) _ _ s
  refine wpAny_bind (wpAny_field ho hd (x := .int i 0) rfl ?_)
  show wpAny _ _ (seqItems? (.ref t) >>= fun v => _) _ _ s
  refine wpAny_bind (wpAny_seqItems hol hdl ?_)
  simp only [Int.toNat_natCast, hx]
  have apart : x1 ≠ it := fun z => by
    rw [z, ho] at h1
    cases h1
    rw [hd] at d1
    injection d1 with d1
    rw [← d1] at c1
    cases c1
  refine wpAny_bind (wpAny_rule (wpAny_bind (wpAny_setField ho hd (by simp) ?_)))
  show wpAny _ _ ((newExc (.type "StopIteration") []) >>= fun v => _) _ _ _
  refine wpAny_bind ?_
  simp only [newExc, newTuple]
  refine wpAny_bind (wpAny_newObj_type ?_ (by size_fits))
  refine wpAny_bind (m := firstArgMember _ _) (wpAny_of_eq (a := Value.none) (by first | rfl | (simp only [firstArgMember] <;> rfl)) ?_)
  refine wpAny_newObj_type ?_ (by size_fits)
  have h1b : (s.heap.update it (Obj.mapFields (·.setIfInBounds 0 Value.none))).get? x1 = some o1 := by
    rw [Heap.get?_update_other _ _ (fun z => apart z.symm)]
    exact h1
  refine raiseNew_hot ⟨hh, o1, vs1, Heap.get?_push_of_some _ (Heap.get?_push_of_some _ h1b), d1, c1⟩ (Nat.ne_of_lt (Heap.lt_size (Heap.get?_push_of_some _ h1b)))
    (Heap.get?_push_size _ rfl) rfl (by first | (simp; done) | (simp; omega) | (simp only [Array.size_append]; simp; omega)) ?_
  refine wpAny_bind (wpAny_isInstance (T := "StopIteration") (b := true) ⟨_, (Heap.get?_update_self _ (Heap.get?_push_size _ rfl) rfl), rfl⟩ isSubtype_stop ?_)
  refine wpAny_pure (hQ _ fun b u nb e => ?_)
  have e1 : (s.heap.update it (Obj.mapFields (·.setIfInBounds 0 Value.none))).get? b = some u := by
    rw [Heap.get?_update_other _ _ (fun z => nb z.symm)]
    exact e
  rw [Heap.get?_update_other _ _ (fun z => Nat.lt_irrefl _ (show _ < _ by have := Heap.lt_size (Heap.get?_push_of_some { cls := Value.type "tuple", data := Data.seq #[] } e1); rw [← z] at this; exact this))]
  exact Heap.get?_push_of_some _ (Heap.get?_push_of_some _ e1)
theorem turn_tupleH {P : Program} {w : World} {K : PySem.W.Frag} {tg : Expr} (a it : Addr) : TurnH P w K tg (Itt K a) [it] it (fun i h => h.IsTupleIter it a i) where
  mem := List.mem_singleton.mpr rfl
  obj := fun i h ⟨o, e, c, d⟩ b hb => by
    rw [List.mem_singleton.mp hb]
    exact ⟨o, e, fun v z => by rw [d] at z; cases z⟩
  keep := fun i h h' st k => st.at fun o e => k it (List.mem_singleton.mpr rfl) o e
  item := by
    rintro X rfl rfl rfl hc i pins s σ H E I hf st ⟨xs, x, hq, hx⟩
    obtain ⟨its, rv, p, _⟩ := I.tuple hq
    obtain ⟨u, hu, ru⟩ := rv.get hx
    obtain ⟨f0, f1, f2, f3, f4, f5⟩ := hf it (List.mem_singleton.mpr rfl)
    have tp : s.heap.IsTuple a its.toArray := p
    refine wpAny_pyNext_tuple_item st tp (x := u) (by simpa using hu) fun h' st' sb => ?_
    have J : Inv X pins σ H { s with heap := h' } := I.turned (t' := s.toks) (fun b o hb e => (sb.2 b hb).trans e) f0 f1 f3 f4 f5
    obtain ⟨o, e, c, d⟩ := id st'
    refine ⟨u, rfl, go_of (s := { s with heap := h' }) e c d (by decide) ⟨x, H, J, ru, ⟨rfl, fun ys hy => ?_⟩, st', fun b hb => (hf b hb).1⟩⟩
    rw [I.tuple_inj hy hq]
    exact hx
  done := by
    rintro X rfl rfl rfl hc i pins s σ H E I hf st ⟨xs, hq, hx⟩
    obtain ⟨its, rv, p, _⟩ := I.tuple hq
    obtain ⟨f0, f1, f2, f3, f4, f5⟩ := hf it (List.mem_singleton.mpr rfl)
    have hl := rv.length
    obtain ⟨x1, hot⟩ := hc.at I
    have tp : s.heap.IsTuple a its.toArray := p
    exact next_tuple_end_hot hot st tp (by simp; omega) fun h' eb => ⟨rfl, I.turned (t' := s.toks) (fun b o hb e => eb b o hb e) f0 f1 f3 f4 f5⟩
  self := fun _ _ _ _ _ st h => wpAny_pyIter_tupleiter st h
theorem pi_tupH {X : Cx} {tg l : Expr} {tl : TE} (hl : PE X l tl) : PIH X tg l (iTup X.K tl) := by
  refine ⟨fun pins s σ H R I h => thn (hl.run pins s σ H _ I h) fun v s1 ⟨x, H1, I1, r1, a, e, ⟨xs, hq⟩, q⟩ => ?_⟩
  subst e
  cases r1
  obtain ⟨its, rv, p, _⟩ := I1.tuple hq
  have tp : s1.heap.IsTuple a its.toArray := p
  refine wpAny_pyIter_tuple tp ⟨s1.heap.objs.size, [s1.heap.objs.size], _, _, H1, rfl, I1.kept (t' := s1.toks) (fun b o e => Heap.get?_push_of_some _ e), turn_tupleH a _, ⟨_, Heap.get?_push_size _ rfl, rfl, rfl⟩, fun b hb => ?_, q⟩
  rw [List.mem_singleton.mp hb]
  exact I1.fpOk (Nat.le_refl _) (I1.hok.fresh (Nat.le_refl _))
end Mz

set_option Elab.async false
set_option linter.all false
set_option maxRecDepth 100000
set_option maxHeartbeats 4000000
/-! the order of words: (len(u), u) < (len(v), v) -/
namespace Mz
open PySem PySem.Spec PyProof.Rows L2
def rLtD (K : PySem.W.Frag) : R2 := fun x y H Q => ∃ d e, Dp K H x d ∧ Dp K H y e ∧ W.alike d e = true ∧ d ≠ .none ∧ min d.depth e.depth ≤ 64 ∧ Q (.bl (W.dataLt d e)) H
theorem op_ltD {X : Cx} (hu : X.A.units + 64 < cLine) : OpR X (compareOp .Lt) (rLtD X.K) := by
  rintro pins s σ H x y v u Q I rx ry ⟨d, e, hd, he, al, hn, dep, q⟩
  obtain ⟨as, r1⟩ := Dp.reads I d x v hd rx
  obtain ⟨bs, r2⟩ := Dp.reads I e y u he ry
  exact W.rcLt_alike d e X.A s v u as bs r1 r2 al hn (by omega) X.prog X.w _ _ ⟨.bl _, H, I, rfl, q⟩
def wordD (ns : List Int) : PyData := .tuple [.int ns.length, .list (ns.map PyData.int)]
theorem alike_ints : ∀ ns ms : List Int, W.alikeAll (ns.map PyData.int) (ms.map PyData.int) = true
  | [], _ => by simp [W.alikeAll]
  | _ :: _, [] => by simp [W.alikeAll]
  | n :: ns, m :: ms => by
    simp only [List.map_cons, W.alikeAll, W.alike, Bool.true_and]
    exact alike_ints ns ms
theorem alike_word (ns ms : List Int) : W.alike (wordD ns) (wordD ms) = true := by
  simp only [wordD, W.alike, W.alikeAll, alike_ints, Bool.and_true]
theorem dp_ints {K : PySem.W.Frag} {H : Hp} : ∀ ns : List Int, DpAll K H (ns.map V.int) (ns.map PyData.int)
  | [] => .nil
  | n :: ns => .cons (.int n) (dp_ints ns)
end Mz
namespace Mz
open PySem PySem.Spec PyProof.Rows L2
theorem depth_ints : ∀ ns : List Int, PyData.depthAll (ns.map PyData.int) ≤ 1
  | [] => by simp [PyData.depthAll]
  | n :: ns => by
    have := depth_ints ns
    simp [PyData.depthAll, PyData.depth]
    omega
theorem depth_word (ns ms : List Int) : min (wordD ns).depth (wordD ms).depth ≤ 64 := by
  have h := depth_ints ns
  have e : (wordD ns).depth ≤ 5 := by
    simp [wordD, PyData.depth, PyData.depthAll]
    omega
  omega
/-- u comes before v -/
def wordLt (u v : List Int) : Bool := if u.length = v.length then HT.lexLt u v else decide (u.length < v.length)
theorem lex_eq {x : Int ⊕ List Nat} {r t : List (Int ⊕ List Nat)} : PyProof.Rows.lexLt itemOrd (x :: r) (x :: t) = PyProof.Rows.lexLt itemOrd r t := PySem.W.lex_pre [x] r t
theorem lex_self (l : List (Int ⊕ List Nat)) : PyProof.Rows.lexLt itemOrd l l = false := by
  have := PySem.W.lex_pre l [] []
  rw [List.append_nil] at this
  rw [this]
  rfl
theorem lex_ints : ∀ (ns ms : List Int) (l : List (Int ⊕ List Nat)), ns.length = ms.length → PyProof.Rows.lexLt itemOrd (PySem.W.keyToksAll (ns.map PyData.int) ++ l) (PySem.W.keyToksAll (ms.map PyData.int) ++ l) = HT.lexLt ns ms
  | [], [], l, _ => by
    rw [lex_self]
    rfl
  | [], _ :: _, _, h => by simp at h
  | _ :: _, [], _, h => by simp at h
  | n :: ns, m :: ms, l, h => by
    have ih := lex_ints ns ms l (by simpa using h)
    rw [List.map_cons, List.map_cons, PySem.W.toks_all_cons, PySem.W.toks_all_cons]
    simp only [PySem.W.keyToks, List.cons_append, List.nil_append]
    rw [lex_eq, HT.lexLt_cons]
    by_cases e : n = m
    · subst e
      rw [lex_eq, ih, if_pos rfl]
    · rw [lex_diff (by simpa using e), if_neg e]
      rfl
theorem dataLt_word (ns ms : List Int) : PySem.W.dataLt (wordD ns) (wordD ms) = wordLt ns ms := by
  unfold PySem.W.dataLt wordD wordLt
  simp only [PySem.W.keyToks, PySem.W.keyToksAll, List.cons_append, List.nil_append]
  rw [lex_eq]
  by_cases e : ns.length = ms.length
  · rw [if_pos e, e, lex_eq, lex_eq]
    exact lex_ints ns ms _ e
  · rw [if_neg e, lex_diff (by simpa using fun z => e (by omega))]
    show decide _ = decide _
    rw [decide_eq_decide]
    omega
end Mz

set_option Elab.async false
set_option linter.all false
set_option maxRecDepth 100000
set_option maxHeartbeats 4000000
/-! errors whose context is None; defs with a table of code objects; what stays beside a table -/
namespace Mz
open PySem PySem.Spec PyProof.Rows L2 L2H
theorem takesN {X : Cx} : L2N.Takes X (fun _ _ _ _ => False) := fun _ _ ⟨_, _, _, _, _, _, _, _, _, _, _, _, _, _, _, _, z⟩ => z.elim
theorem passN {X : Cx} : Passes (L2N.CX X.prog X.w) X E0 := fun _ _ _ _ _ _ _ ⟨_, _, _, _, _, _, _, _, _, _, _, _, z⟩ => z.elim
section
variable {X : Cx} {C : Addr} {bmB : List Value} {B newId initId : String}
/-- X(e, ..) for an own error class -/
theorem pmk_any {x : Str} {p pos : Pos} {e : Expr} {es : List Expr} {t : TA} (F : ExcBaseFacts B newId initId bmB) (q : PySem.W.excIn X.K C bmB newId = true) (gC : X.mg x = some (.ref C))
    (kC : PySem.W.keepIn X.K (.ref C) = true) (r : Raises X (.ref C)) (hg : Gl X x) (ha : PA X (e :: es) t) (hdb : (x == ("__debug__" : Str)) = false := by decide)
    (he : starEach (e :: es) X.env = (false, eval e X.env) :: starEach es X.env := by rfl) (hpl : (backTo pos (starEach es X.env)).any (·.1) = false := by rfl) :
    L2N.PMk X (.Call (.Name x p) (e :: es) [] pos) (fun σ H Q => t σ H fun vs H1 => vs.length ≤ sizeLine ∧ Q (.ref C) none H1) := by
  intro pins s σ H Q I h
  refine wpAny_Call_Name_kw (ld_glob I hg gC (PySem.W.callWith_K (h₀ := X.base) I.ok.mod.kin kC (thn (ha.run pos pins s σ H _ I h) fun us s1 ⟨vs, H1, I1, r1, hz, q1⟩ => ⟨I1.kIn, ?_⟩) he hpl) hdb)
  show wpAny _ _ (call (.ref C) us) _ _ _
  obtain ⟨bm, N, nm, qn, bs, hdct, sn, sub, ab, col, dd, k0, k1, k2, k3, k5, mN, hC, hN, hni, T⟩ := exc_obj I1.kIn q
  exact wpAny_call_exc_subT F T hC hN hni (fun h' e hm => L2N.mk_of I1 hm r q1 (I1.hok.gone hm.new)) (by rw [← r1.length]; exact hz)
end
section
variable {P : Program} {w : World} {K : PySem.W.Frag} {mg : Str → Option Value} {base : Heap}
/-- a def that may raise -/
theorem okN {x qual : Str} {st : Stmt} {f : Addr} {fd : FuncData} {N ps : List Str} {k : Nat} {sp : Sp} (F : Fun K x qual st f fd) (S : FnScope N ps (defScope st)) (len : ∀ vs H Q E, sp vs H Q E → vs.length = ps.length)
    (hbody : ∀ (cdv : Value) (A : Around) (outer : List Env) (s : Shared) (H : Hp) (vs : List V) (Q : VK) (E : XK), Room k (A.deeper (envOfC qual (defScope st) s.heap.objs.size f cdv)) → sp vs H Q E →
      ∃ t, PSs (cxOf (L2N.CX P w) P w K mg base N qual (defScope st) f cdv A outer s H E) (defBody st) t ∧ t { nx := fun _ H' => Q .non H', rt := Q } (start N vs) H) : FnOk P w K mg base (L2N.CX P w) (k + 1) f fd ps sp := by
  obtain ⟨oc, od, kV, doc, pm, an, cdv, ct, osl, rfl, lk, hcd⟩ := F.ex
  exact fn_of lk hcd S len fun A outer s H vs Q E hr hsp => hbody cdv A outer s H vs Q E hr hsp
/-- a def whose code object is known -/
theorem okC {x qual : Str} {st : Stmt} {f : Addr} {fd : FuncData} {N ps : List Str} {k : Nat} {sp : Sp} (F : Fun K x qual st f fd) (S : FnScope N ps (defScope st)) (len : ∀ vs H Q E, sp vs H Q E → vs.length = ps.length)
    (hbody : ∀ (A : Around) (outer : List Env) (s : Shared) (H : Hp) (vs : List V) (Q : VK) (E : XK), Room k (A.deeper (envOfC qual (defScope st) s.heap.objs.size f fd.code)) → sp vs H Q E →
      ∃ t, PSs (cxOf CX0 P w K mg base N qual (defScope st) f fd.code A outer s H E).nox (defBody st) t ∧ t { nx := fun _ H' => Q .non H', rt := Q } (start N vs) H) : FnOk P w K mg base CX0 (k + 1) f fd ps sp := by
  obtain ⟨oc, od, kV, doc, pm, an, cdv, ct, osl, rfl, lk, hcd⟩ := F.ex
  refine fn_of lk hcd S len fun A outer s H vs Q E hr hsp => ?_
  obtain ⟨t, h, q⟩ := hbody A outer s H vs Q E hr hsp
  exact ⟨t, h.nox, q⟩
/-- a def called while an error is handled -/
theorem okH {x qual : Str} {st : Stmt} {f : Addr} {fd : FuncData} {N ps : List Str} {k : Nat} {sp : Sp} (F : Fun K x qual st f fd) (S : FnScope N ps (defScope st)) (len : ∀ vs H Q E, sp vs H Q E → vs.length = ps.length)
    (hbody : ∀ (cdv : Value) (A : Around) (outer : List Env) (s : Shared) (H : Hp) (vs : List V) (Q : VK) (E : XK) (p : Addr × Obj), Hot1 A p → RoomH k (A.deeper (envOfC qual (defScope st) s.heap.objs.size f cdv)) → sp vs H Q E →
      ∃ t, PSs (cxH CX0 P w K mg base N qual (defScope st) f cdv A outer s H E p) (defBody st) t ∧ t { nx := fun _ H' => Q .non H', rt := Q } (start N vs) H) : FnH P w K mg base CX0 (k + 1) f fd ps sp := by
  obtain ⟨oc, od, kV, doc, pm, an, cdv, ct, osl, rfl, lk, hcd⟩ := F.ex
  exact fn_ofH lk hcd S len fun A outer s H vs Q E p hot hr hsp => hbody cdv A outer s H vs Q E p hot hr hsp
end
theorem hot_suite {X : Cx} {a : Addr} {oe : Obj} {pn : List (Addr × Obj)} {cls : Value} {d : Option Addr} (hz : L2N.Zn cls d oe) (hf : ∃ vs, oe.data = .fields vs) : HotC (X.suite a ((a, oe) :: pn)) := by
  obtain ⟨vs, e⟩ := hf
  exact ⟨(a, oe), ⟨rfl, vs, e, hz.2.2 vs e⟩, List.mem_cons_self⟩
/-! ### what stays as it was, but for the table at P -/
structure Kp (P : Addr) (H H' : Hp) : Prop where
  tab : GxR.TabG H' P
  keep : ∀ b o, b ≠ P → H b = some o → H' b = some o
theorem tab_ne {H : Hp} {P b : Addr} {o : HO} (t : GxR.TabG H P) (e : H b = some o) (h : ∀ ps, o ≠ .tbl ps) : b ≠ P := fun z => by
  obtain ⟨ps, hP, _⟩ := t
  rw [z, hP] at e
  exact h ps (Option.some.inj e).symm
theorem Kp.of {P : Addr} {H H' : Hp} (t : GxR.TabG H P) (s : Same H H') : Kp P H H' := by
  obtain ⟨ps, hP, ht⟩ := t
  exact ⟨⟨ps, s _ _ hP, ht⟩, fun b o _ e => s b o e⟩
theorem Kp.refl {P : Addr} {H : Hp} (t : GxR.TabG H P) : Kp P H H := ⟨t, fun _ _ _ e => e⟩
theorem Kp.trans {P : Addr} {H H1 H2 : Hp} (a : Kp P H H1) (b : Kp P H1 H2) : Kp P H H2 := ⟨b.tab, fun c o n e => b.keep c o n (a.keep c o n e)⟩
theorem Kp.andS {P : Addr} {H H1 H2 : Hp} (a : Kp P H H1) (b : Same H1 H2) : Kp P H H2 := a.trans (.of a.tab b)
theorem Kp.ofTabbed {P : Addr} {H H' : Hp} (t : GxR.Tabbed P H H') : Kp P H H' := ⟨t.1, fun b o n e => by rw [t.2 b n]; exact e⟩
theorem Kp.free {P : Addr} {H H' : Hp} (k : Kp P H H') {b : Addr} (e : H' b = none) : H b = none := by
  cases q : H b with
  | none => rfl
  | some o =>
    have n : b ≠ P := fun z => by
      obtain ⟨ps, hP, _⟩ := k.tab
      rw [z, hP] at e
      cases e
    rw [k.keep b o n q] at e
    cases e
theorem Kp.seq {P : Addr} {H H' : Hp} {K : PySem.W.Frag} {a : Addr} {xs : List V} (t : GxR.TabG H P) (k : Kp P H H') (h : SqL K H a xs) : SqL K H' a xs := by
  rcases h with (h | ⟨o, h⟩) | h
  · exact .inl (.inl (k.keep _ _ (tab_ne t h (fun ps z => by cases z)) h))
  · exact .inl (.inr ⟨o, k.keep _ _ (tab_ne t h (fun ps z => by cases z)) h⟩)
  · exact .inr h
theorem Kp.tup {P : Addr} {H H' : Hp} {a : Addr} {xs : List V} (t : GxR.TabG H P) (k : Kp P H H') (h : H a = some (.tup xs)) : H' a = some (.tup xs) := k.keep _ _ (tab_ne t h (fun ps z => by cases z)) h
theorem Kp.lst {P : Addr} {H H' : Hp} {a : Addr} {xs : List V} (t : GxR.TabG H P) (k : Kp P H H') (h : H a = some (.lst xs)) : H' a = some (.lst xs) := k.keep _ _ (tab_ne t h (fun ps z => by cases z)) h
theorem Kp.mat {P : Addr} {H H' : Hp} {m mv ou : Addr} {M : Mach} {rs : List Addr} (t : GxR.TabG H P) (k : Kp P H H') (h : MAt H m M mv ou rs) : MAt H' m M mv ou rs :=
  ⟨k.tup t h.top, k.tup t h.mv, k.tup t h.ou, h.len, fun i r w a b => k.tup t (h.row i r w a b)⟩
theorem Kp.ma {P : Addr} {H H' : Hp} {m : Addr} {M : Mach} (t : GxR.TabG H P) (k : Kp P H H') (h : MA H m M) : MA H' m M := by
  obtain ⟨mv, ou, rs, h⟩ := h
  exact ⟨mv, ou, rs, k.mat t h⟩
/-- a list or a tuple of ints -/
def Ints (K : PySem.W.Frag) (H : Hp) (a : Addr) (ns : List Int) : Prop := SqL K H a (ns.map V.int) ∨ SqT K H a (ns.map V.int)
def belowB (ns : List Int) (L : Int) : Bool := ns.all fun n => decide (0 ≤ n) && decide (n < L)
theorem below_iff {ns : List Int} {L : Int} : belowB ns L = true ↔ Lt L ns := by
  unfold belowB Lt
  rw [List.all_eq_true]
  constructor
  · intro h z hz
    have := h z hz
    simpa using this
  · intro h z hz
    simpa using h z hz
end Mz
namespace Mz
open PySem PySem.Spec PyProof.Rows L2
/-! ### f'..': its length, part by part -/
theorem js_str {z : Str} {ts : List TE} {acc : Str} {σ : L2.St} {H : Hp} {Q : Str → Hp → Prop} {n : Nat} (ha : acc.length ≤ n) (hz : z.length ≤ 100) (hn : n ≤ 1000000) (k : (acc ++ z).length ≤ n + 100 → tJs ts (acc ++ z) σ H Q) :
    tJs (tC (.str z) :: ts) acc σ H Q := by
  have e : (acc ++ z).length ≤ n + 100 := by
    rw [PySem.Str.length_append]
    omega
  refine ⟨z, rfl, ?_, k e⟩
  rw [sizeLine_eq]
  omega
theorem js_int {te : TE} {ts : List TE} {acc : Str} {σ : L2.St} {H : Hp} {Q : Str → Hp → Prop} {n : Nat} (ha : acc.length ≤ n) (hn : n ≤ 1000000)
    (k : te σ H fun x H1 => ∃ i : Int, x = .int i ∧ i.natAbs.log2 < 1920 ∧ ((acc ++ Str.ofString (toString i)).length ≤ n + 1921 → tJs ts (acc ++ Str.ofString (toString i)) σ H1 Q)) (mono : ∀ {Q1 Q2 : VK}, (∀ x H1, Q1 x H1 → Q2 x H1) → te σ H Q1 → te σ H Q2) :
    tJs (tFmt te :: ts) acc σ H Q := by
  refine mono (fun x H1 ⟨i, e, hi, q⟩ => ?_) k
  have l := int_text_len_1921 hi
  have e2 : (acc ++ Str.ofString (toString i)).length ≤ n + 1921 := by
    rw [PySem.Str.length_append]
    omega
  refine .inr ⟨i, e, hi, _, rfl, ?_, q e2⟩
  rw [sizeLine_eq]
  show (acc ++ Str.ofString (toString i)).length ≤ _
  omega
theorem log_small {i : Int} (h : i.natAbs < 2 ^ 64) : i.natAbs.log2 < 1920 := by
  by_cases h0 : i.natAbs = 0
  · rw [h0]
    decide
  · have := (Nat.log2_lt h0).mpr h
    omega
end Mz

set_option Elab.async false
set_option linter.all false
set_option maxRecDepth 100000
set_option maxHeartbeats 4000000
/-! isinstance: the error in hand against a builtin class; small facts of builtin classes -/
namespace Mz
open PySem PySem.Spec PyProof.Rows L2
def rIsXV (K : PySem.W.Frag) (a : Addr) (cls : Value) (d : Option Addr) : List V → Hp → VK → Prop := fun xs H Q =>
  ∃ (D : Addr) (c : V) (u : Value) (b : Bool), cls = .ref D ∧ d = none ∧ ExcC K D ∧ xs = [.ref a, c] ∧ ClsV c u ∧ PySem.W.kitOne K (.ref D) u = some b ∧ Q (.bl b) H
theorem call_isXV {X : Cx} {a : Addr} {cls : Value} {d : Option Addr} {oe : Obj} {pn : List (Addr × Obj)} (hz : Zc cls d oe) (hf : ∃ vs, oe.data = .fields vs) :
    CallR (X.suite a ((a, oe) :: pn)) (.builtin "isinstance") (rIsXV X.K a cls d) := by
  rintro pins s σ H xs us Q I r ⟨D, c, u, b, rfl, rfl, ec, rfl, k, hk, q⟩
  exact call_isE ec hz hf pins s σ H _ us Q I r ⟨c, u, b, rfl, fun w r => k.eq r, hk, q⟩
theorem kit_ty {K : PySem.W.Frag} {D : Addr} {n : String} {b : Bool} (h : PySem.W.subIn K (.ref D) (.type n) = some b) (hm : PySem.W.kitMeta n = true := by decide +kernel) : PySem.W.kitOne K (.ref D) (.type n) = some b := by
  unfold PySem.W.kitOne
  rw [if_neg (by exact fun z => nomatch (beq_iff_eq.mp z : Value.ref D = Value.type n))]
  show (if PySem.W.kitMeta n = true then PySem.W.subIn K (.ref D) (.type n) else none) = some b
  rw [if_pos hm]
  exact h
/-- isinstance of an int, a bool, a list -/
theorem kit_ints {K : PySem.W.Frag} : PySem.W.kitOne K (.type "int") (.type "int") = some true := if_pos (beq_self_eq_true _)
theorem kit_bools {K : PySem.W.Frag} : PySem.W.kitOne K (.type "bool") (.type "bool") = some true := if_pos (beq_self_eq_true _)
theorem kit_lists {K : PySem.W.Frag} : PySem.W.kitOne K (.type "list") (.type "list") = some true := if_pos (beq_self_eq_true _)
theorem kit_int_bool {K : PySem.W.Frag} : PySem.W.kitOne K (.type "int") (.type "bool") = some false := by
  unfold PySem.W.kitOne
  rw [if_neg (by decide)]
  show (if PySem.W.kitMeta "bool" = true then PySem.W.subIn K (.type "int") (.type "bool") else none) = some false
  rw [if_pos (by decide +kernel)]
  show (fastBuiltinMro "int").map (·.contains (Value.type "bool")) = some false
  decide +kernel
end Mz

set_option Elab.async false
set_option linter.all false
set_option maxRecDepth 100000
set_option maxHeartbeats 4000000
/-! a machine under change: a list of lists and a list, all new -/
namespace Mz
open PySem PySem.Spec PyProof.Rows L2
theorem ps_weak {X : Cx} {st : Stmt} {t t' : TS} (h : PS X st t) (k : ∀ D σ H, t' D σ H → t D σ H) : PS X st t' := ⟨fun pins s σ H D I q => h.run pins s σ H D I (k D σ H q)⟩
theorem blkOk_at {N N' : List Str} {sc sc' scope : Scope} {own : List (Str × Nat)} (h : BlkOk N sc scope own) (h1 : N = N') (h2 : sc = sc') : BlkOk N' sc' scope own := by
  subst h1 h2
  exact h
def rLof (K : PySem.W.Frag) : List V → Hp → VK → Prop := fun xs H Q => ∃ p ys, xs = [.ref p] ∧ (SqL K H p ys ∨ SqT K H p ys) ∧ ∀ l, H l = none → Q (.ref l) (upd H l (.lst ys))
theorem call_lof {X : Cx} : CallR X (.type "list") (rLof X.K) := call_list_of
def rTof (K : PySem.W.Frag) : List V → Hp → VK → Prop := fun xs H Q => ∃ p ys, xs = [.ref p] ∧ ((SqL K H p ys ∧ ∀ l, H l = none → Q (.ref l) (upd H l (.tup ys))) ∨ (SqT K H p ys ∧ Q (.ref p) H))
theorem call_tof {X : Cx} : CallR X (.type "tuple") (rTof X.K) := call_tuple_of
structure Mut (H H' : Hp) (mvl oul : Addr) (rs : List Addr) (os : List Int) : Prop where
  same : Same H H'
  fm : H mvl = none
  fo : H oul = none
  ne : mvl ≠ oul
  mv : H' mvl = some (.lst (rs.map V.ref))
  ou : H' oul = some (.lst (os.map V.int))
  row : ∀ r ∈ rs, H r = none ∧ r ≠ mvl ∧ r ≠ oul ∧ ∃ w : List Int, w.length ≤ 5 ∧ H' r = some (.lst (w.map V.int))
  rl : rs.length ≤ 31
  ol : os.length ≤ 31
section
variable {H H' H2 : Hp} {mvl oul : Addr} {rs : List Addr} {os : List Int}
theorem Mut.on (m : Mut H H' mvl oul rs os) (s : Same H' H2) : Mut H H2 mvl oul rs os :=
  ⟨m.same.trans s, m.fm, m.fo, m.ne, s _ _ m.mv, s _ _ m.ou, fun r hr => by
    obtain ⟨a, b, c, w, lw, e⟩ := m.row r hr
    exact ⟨a, b, c, w, lw, s _ _ e⟩, m.rl, m.ol⟩
theorem Mut.new (m : Mut H H' mvl oul rs os) {p : Addr} (hp : H' p = none) (o : HO) : Mut H (upd H' p o) mvl oul rs os := m.on (same_upd (Same.refl _) hp)
/-- a row's content -/
theorem Mut.setRow (m : Mut H H' mvl oul rs os) {r : Addr} (hr : r ∈ rs) {w : List Int} (lw : w.length ≤ 5) : Mut H (upd H' r (.lst (w.map V.int))) mvl oul rs os := by
  obtain ⟨a, b, c, _, _, _⟩ := m.row r hr
  refine ⟨same_set m.same a, m.fm, m.fo, m.ne, by rw [upd_ne b.symm]; exact m.mv, by rw [upd_ne c.symm]; exact m.ou, fun x hx => ?_, m.rl, m.ol⟩
  obtain ⟨a2, b2, c2, w2, l2, e2⟩ := m.row x hx
  refine ⟨a2, b2, c2, ?_⟩
  by_cases z : x = r
  · subst z
    exact ⟨w, lw, upd_same⟩
  · exact ⟨w2, l2, by rw [upd_ne z]; exact e2⟩
theorem Mut.setOut (m : Mut H H' mvl oul rs os) {os2 : List Int} (l : os2.length ≤ 31) : Mut H (upd H' oul (.lst (os2.map V.int))) mvl oul rs os2 := by
  refine ⟨same_set m.same m.fo, m.fm, m.fo, m.ne, by rw [upd_ne m.ne]; exact m.mv, upd_same, fun x hx => ?_, m.rl, l⟩
  obtain ⟨a2, b2, c2, w2, l2, e2⟩ := m.row x hx
  exact ⟨a2, b2, c2, w2, l2, by rw [upd_ne c2]; exact e2⟩
/-- the list of rows is another one -/
theorem Mut.setMv (m : Mut H H' mvl oul rs os) {rs2 : List Addr} (l : rs2.length ≤ 31) (hrs : ∀ r ∈ rs2, r ∈ rs ∨ (H r = none ∧ r ≠ mvl ∧ r ≠ oul ∧ ∃ w : List Int, w.length ≤ 5 ∧ H' r = some (.lst (w.map V.int)))) :
    Mut H (upd H' mvl (.lst (rs2.map V.ref))) mvl oul rs2 os := by
  refine ⟨same_set m.same m.fm, m.fm, m.fo, m.ne, upd_same, by rw [upd_ne m.ne.symm]; exact m.ou, fun x hx => ?_, l, m.ol⟩
  obtain ⟨a2, b2, c2, w2, l2, e2⟩ := (hrs x hx).elim (m.row x) id
  exact ⟨a2, b2, c2, w2, l2, by rw [upd_ne b2]; exact e2⟩
theorem ne_some {a b : Addr} {o : HO} (h : H' a = none) (e : H' b = some o) : b ≠ a := fun z => by
  rw [z, h] at e
  cases e
/-- a new list of outputs -/
theorem Mut.newOut (m : Mut H H' mvl oul rs os) {p : Addr} (hp : H' p = none) {os2 : List Int} (l : os2.length ≤ 31) : Mut H (upd H' p (.lst (os2.map V.int))) mvl p rs os2 := by
  have k := m.new hp (.lst (os2.map V.int))
  refine ⟨k.same, m.fm, m.same.free hp, ne_some hp m.mv, k.mv, upd_same, fun x hx => ?_, m.rl, l⟩
  obtain ⟨a2, b2, c2, w2, l2, e2⟩ := k.row x hx
  obtain ⟨_, _, _, w3, _, e3⟩ := m.row x hx
  exact ⟨a2, b2, ne_some hp e3, w2, l2, e2⟩
/-- a new list of rows -/
theorem Mut.newMv (m : Mut H H' mvl oul rs os) {p : Addr} (hp : H' p = none) {rs2 : List Addr} (l : rs2.length ≤ 31) (hrs : ∀ r ∈ rs2, r ∈ rs) : Mut H (upd H' p (.lst (rs2.map V.ref))) p oul rs2 os := by
  have k := m.new hp (.lst (rs2.map V.ref))
  refine ⟨k.same, m.same.free hp, m.fo, (ne_some hp m.ou).symm, upd_same, k.ou, fun x hx => ?_, l, m.ol⟩
  obtain ⟨a2, b2, c2, w2, l2, e2⟩ := k.row x (hrs x hx)
  obtain ⟨_, _, _, w3, _, e3⟩ := m.row x (hrs x hx)
  exact ⟨a2, ne_some hp e3, c2, w2, l2, e2⟩
end
end Mz

set_option Elab.async false
set_option linter.all false
set_option maxRecDepth 100000
set_option maxHeartbeats 4000000
/-! == and != of lists of ints -/
namespace Mz
open PySem PySem.Spec PyProof.Rows L2
theorem eqv_ints : ∀ ns ms : List Int, PyData.eqvAll (ns.map PyData.int) (ms.map PyData.int) = decide (ns = ms)
  | [], [] => by simp [PyData.eqvAll]
  | [], _ :: _ => by simp [PyData.eqvAll]
  | _ :: _, [] => by simp [PyData.eqvAll]
  | n :: ns, m :: ms => by
    rw [List.map_cons, List.map_cons, PyData.eqvAll, eqv_ints ns ms, PyData.eqv]
    by_cases h : n = m
    · subst h
      by_cases h2 : ns = ms <;> simp [h2]
    · simp [h]
theorem eqv_lists (ns ms : List Int) : PyData.eqv (.list (ns.map PyData.int)) (.list (ms.map PyData.int)) = decide (ns = ms) := by
  rw [PyData.eqv]
  exact eqv_ints ns ms
section
variable {K : PySem.W.Frag} {H : Hp} {a b : Addr} {ns ms : List Int} {Q : VK}
theorem eq_lists (h1 : SqL K H a (ns.map V.int)) (h2 : SqL K H b (ms.map V.int)) (q : Q (.bl (decide (ns = ms))) H) : rEqD K (.ref a) (.ref b) H Q :=
  ⟨_, _, .lst h1 (dp_ints ns), .lst h2 (dp_ints ms), PySem.W.shaped_ints ns, PySem.W.shaped_ints ms, by rw [eqv_lists]; exact q⟩
theorem ne_lists (h1 : SqL K H a (ns.map V.int)) (h2 : SqL K H b (ms.map V.int)) (q : Q (.bl (!decide (ns = ms))) H) : rNeD K (.ref a) (.ref b) H Q :=
  ⟨_, _, .lst h1 (dp_ints ns), .lst h2 (dp_ints ms), PySem.W.shaped_ints ns, PySem.W.shaped_ints ms, by rw [eqv_lists]; exact q⟩
end
end Mz

set_option Elab.async false
set_option linter.all false
set_option maxRecDepth 100000
set_option maxHeartbeats 4000000
/-! {k: v}, k a tuple -/
namespace Mz
open PySem PySem.Spec PyProof.Rows L2
def tDisp1T (tk tv : TE) : TE := fun σ H Q => ∀ p, H p = none → tk σ (upd H p (.dT [])) fun x H1 => tv σ H1 fun y H2 => ∃ (b : Addr) (k : List L2.Key), x = .ref b ∧ H2 b = some (.tup (k.map kV)) ∧ H2 p = some (.dT []) ∧ Q (.ref p) (upd H2 p (.dT [(k, y)]))
theorem pe_disp1T {X : Cx} {ke ve : Expr} {pos : Pos} {tk tv : TE} (hu : X.A.units + 1 < cLine) (hk : PE X ke tk) (hv : PE X ve tv) : PE X (.Dict [some ke] [ve] pos) (tDisp1T tk tv) := by
  refine ⟨fun pins s σ H Q I q => ?_⟩
  have hn := I.hok.fresh (Nat.le_refl s.heap.objs.size)
  have I1 := I.laid (a := s.heap.objs.size) (o := .dT []) (h' := s.heap.push { cls := .type "dict", data := .dict #[] }) (t' := s.toks) (fun _ _ q => Heap.get?_push_of_some _ q) (Nat.le_refl _) (dt_empty s.heap I.big)
  have hl : (pairTrees [some ke] [ve] X.env pos).length = 1 := pairTrees_length _ _ _ _ rfl rfl
  rw [arm_eval_Dict, zip_pairTrees [some ke] [ve] X.env pos rfl rfl, dictDisplay_pairs (pairTrees [some ke] [ve] X.env pos) (fun z => by rw [z] at hl; cases hl) (by omega)]
  refine wpAny_bind (wpAny_standAt (wpAny_bind (wpAny_subDictH (knd := tupleKind (mixKind X.prog X.w)) (Q := fun d s' => wpAny (model X.prog X.w) X.A (pure (Value.ref d)) (EP X pins σ Q) X.xe s') (show X.A.units < cLine by omega) (by omega) ?_)))
  refine pairTrees_cons_walk (thn (hk.run pins _ σ _ _ I1 (q _ hn)) fun u s1 ⟨x, H1, I2, rx, q1⟩ => thn (hv.run pins s1 σ H1 _ I2 q1) fun v s2 ⟨y, H2, I3, ry, b, k, ex, eb, ep, q2⟩ => ?_)
  subst ex
  obtain rfl : u = Value.ref b := rx
  obtain ⟨z, hd, xs, rel, dd⟩ := dt_of I3.hok ep
  cases rel
  refine pairTrees_nil_walk ⟨[(k, b, v)], ⟨rfl, rfl, key_of I3.hok eb, trivial⟩, dd, fun h' tk dd' hs => ?_⟩
  have e1 : storedAllH ([] : List (List L2.Key × Addr × Value)) [(k, b, v)] = [(k, b, v)] := rfl
  rw [e1] at dd'
  obtain ⟨o, es, ep2, hq, h2, h3, h4, _, h5⟩ := dd'
  refine wpAny_pure ⟨.ref s.heap.objs.size, _, d_write (t' := tk) (ob := .dT [(k, y)]) I3 (by rw [ep]; exact True.intro) hs ⟨o, hq⟩ ⟨?_, hd, [(k, b, v)], .cons ⟨rfl, ?_, ry⟩ .nil, o, es, ep2, hq, h2, h3, h4, h5⟩, rfl, q2⟩
  · rw [sizeLine_eq]
    show 1 ≤ _
    omega
  · have nb : b ≠ s.heap.objs.size := fun z => by
      rw [z, ep] at eb
      cases eb
    rw [upd_ne nb]
    exact eb
end Mz

set_option Elab.async false
set_option linter.all false
set_option maxRecDepth 100000
set_option maxHeartbeats 4000000
/-! the search by widths in the heap -/
namespace Mz
open PySem PySem.Spec PyProof.Rows L2
def kP (p : Pr) : List L2.Key := [.inl p.1, .inl p.2]
theorem kP_inj {p q : Pr} (h : kP p = kP q) : p = q := by
  unfold kP at h
  injection h with h1 h2
  injection h2 with h2 _
  injection h1 with h1
  injection h2 with h2
  exact Prod.ext h1 h2
def dictOf (L : List Nd) : List (List L2.Key × V) := L.map fun n => (kP n.pr, V.ref n.wa)
theorem val_find (p : Pr) : ∀ L : List Nd, (∃ n ∈ L, n.pr = p ∧ valV (dictOf L) (kP p) = some (.ref n.wa)) ∨ (valV (dictOf L) (kP p) = none ∧ ∀ n ∈ L, n.pr ≠ p)
  | [] => .inr ⟨rfl, fun n hn => absurd hn (by simp)⟩
  | n :: L => by
    by_cases h : n.pr = p
    · exact .inl ⟨n, List.mem_cons_self, h, valV_pos (p := (kP n.pr, V.ref n.wa)) (by rw [h])⟩
    · have e : valV (dictOf (n :: L)) (kP p) = valV (dictOf L) (kP p) := valV_neg (p := (kP n.pr, V.ref n.wa)) fun z => h (kP_inj z)
      rcases val_find p L with ⟨m, hm, h1, h2⟩ | ⟨h1, h2⟩
      · exact .inl ⟨m, List.mem_cons_of_mem _ hm, h1, by rw [e]; exact h2⟩
      · refine .inr ⟨by rw [e]; exact h1, fun m hm => ?_⟩
        rcases List.mem_cons.mp hm with z | z
        · rw [z]
          exact h
        · exact h2 m z
theorem nodup_inj {α β : Type} {f : α → β} : ∀ {L : List α}, (L.map f).Nodup → ∀ {x y : α}, x ∈ L → y ∈ L → f x = f y → x = y
  | [], _, _, _, hx, _, _ => absurd hx (by simp)
  | a :: L, h, x, y, hx, hy, e => by
    rw [List.map_cons, List.nodup_cons] at h
    rcases List.mem_cons.mp hx with hx | hx
    · rcases List.mem_cons.mp hy with hy | hy
      · rw [hx, hy]
      · rw [hx] at e
        exact absurd (List.mem_map.mpr ⟨y, hy, e.symm⟩) h.1
    · rcases List.mem_cons.mp hy with hy | hy
      · rw [hy] at e
        exact absurd (List.mem_map.mpr ⟨x, hx, e⟩) h.1
      · exact nodup_inj h.2 hx hy e
structure HB (H0 H' : Hp) (d qa : Addr) (L : List Nd) : Prop where
  same : Same H0 H'
  fd : H0 d = none
  fq : H0 qa = none
  dd : H' d = some (.dT (dictOf L))
  qq : H' qa = some (.lst (L.map fun n => V.ref n.ta))
  tp : ∀ n ∈ L, H' n.ta = some (.tup [.int n.pr.1, .int n.pr.2])
  wl : ∀ n ∈ L, H' n.wa = some (.lst (n.wd.map V.int)) ∧ n.wa ≠ qa
  wf : ∀ n ∈ L, H0 n.wa = none
section
variable {H0 H' H2 : Hp} {d qa : Addr} {L : List Nd}
theorem HB.on (B : HB H0 H' d qa L) (s : Same H' H2) : HB H0 H2 d qa L :=
  ⟨B.same.trans s, B.fd, B.fq, s _ _ B.dd, s _ _ B.qq, fun n hn => s _ _ (B.tp n hn), fun n hn => ⟨s _ _ (B.wl n hn).1, (B.wl n hn).2⟩, B.wf⟩
theorem HB.new (B : HB H0 H' d qa L) {p : Addr} (hp : H' p = none) (o : HO) : HB H0 (upd H' p o) d qa L := B.on (same_upd (Same.refl _) hp)
/-- a pair with its word goes into the dict, then into the queue -/
theorem HB.push (B : HB H0 H' d qa L) {n : Nd} (ht : H' n.ta = some (.tup [.int n.pr.1, .int n.pr.2])) (hw : H' n.wa = some (.lst (n.wd.map V.int))) (nq : n.wa ≠ qa) (nf : H0 n.wa = none) :
    HB H0 (upd (upd H' d (.dT (dictOf L ++ [(kP n.pr, .ref n.wa)]))) qa (.lst (L.map (fun n => V.ref n.ta) ++ [.ref n.ta]))) d qa (L ++ [n]) := by
  have dq : d ≠ qa := fun z => by
    have h1 := B.dd
    rw [z, B.qq] at h1
    cases h1
  have kt : ∀ {b : Addr} {xs : List V}, H' b = some (.tup xs) → upd (upd H' d (.dT (dictOf L ++ [(kP n.pr, .ref n.wa)]))) qa (.lst (L.map (fun n => V.ref n.ta) ++ [.ref n.ta])) b = some (.tup xs) := fun {b xs} e => by
    have b1 : b ≠ d := fun z => by
      rw [z, B.dd] at e
      cases e
    have b2 : b ≠ qa := fun z => by
      rw [z, B.qq] at e
      cases e
    rw [upd_ne b2, upd_ne b1]
    exact e
  have kl : ∀ {b : Addr} {xs : List V}, H' b = some (.lst xs) → b ≠ qa → upd (upd H' d (.dT (dictOf L ++ [(kP n.pr, .ref n.wa)]))) qa (.lst (L.map (fun n => V.ref n.ta) ++ [.ref n.ta])) b = some (.lst xs) := fun {b xs} e b2 => by
    have b1 : b ≠ d := fun z => by
      rw [z, B.dd] at e
      cases e
    rw [upd_ne b2, upd_ne b1]
    exact e
  refine ⟨same_set (same_set B.same B.fd) B.fq, B.fd, B.fq, ?_, ?_, fun m hm => ?_, fun m hm => ?_, fun m hm => ?_⟩
  · rw [upd_ne dq, upd_same]
    unfold dictOf
    rw [List.map_append]
    rfl
  · rw [upd_same, List.map_append]
    rfl
  · rcases List.mem_append.mp hm with e | e
    · exact kt (B.tp m e)
    · rw [List.mem_singleton.mp e]
      exact kt ht
  · rcases List.mem_append.mp hm with e | e
    · exact ⟨kl (B.wl m e).1 (B.wl m e).2, (B.wl m e).2⟩
    · rw [List.mem_singleton.mp e]
      exact ⟨kl hw nq, nq⟩
  · rcases List.mem_append.mp hm with e | e
    · exact B.wf m e
    · rw [List.mem_singleton.mp e]
      exact nf
end
end Mz

set_option Elab.async false
set_option linter.all false
set_option maxRecDepth 100000
set_option maxHeartbeats 4000000
/-! small things: ifs, f-strings of small ints, places of lists -/
namespace Mz
open PySem PySem.Spec PyProof.Rows L2
theorem js_4 {t1 t2 : TE} {z1 z2 : Str} {i1 i2 : Int} {σ : L2.St} {H : Hp} {Q : Str → Hp → Prop} (h1 : ∀ {Q : VK}, Q (.int i1) H → t1 σ H Q) (h2 : ∀ {Q : VK}, Q (.int i2) H → t2 σ H Q) (b1 : i1.natAbs < 2 ^ 64) (b2 : i2.natAbs < 2 ^ 64) (l1 : z1.length ≤ 100) (l2 : z2.length ≤ 100)
    (k : ∀ out, Q out H) : tJs [tC (.str z1), tFmt t1, tC (.str z2), tFmt t2] Str.empty σ H Q := by
  have i1' := int_text_len_1921 (log_small b1)
  have i2' := int_text_len_1921 (log_small b2)
  refine ⟨z1, rfl, ?_, ?_⟩
  · rw [PySem.Str.length_append, sizeLine_eq]
    show 0 + z1.length ≤ _
    omega
  refine h1 (.inr ⟨i1, rfl, log_small b1, _, rfl, ?_, z2, rfl, ?_, ?_⟩)
  · rw [PySem.Str.length_append, PySem.Str.length_append, sizeLine_eq]
    show 0 + z1.length + _ ≤ _
    omega
  · rw [PySem.Str.length_append, PySem.Str.length_append, PySem.Str.length_append, sizeLine_eq]
    show 0 + z1.length + _ + _ ≤ _
    omega
  refine h2 (.inr ⟨i2, rfl, log_small b2, _, rfl, ?_, k _⟩)
  rw [PySem.Str.length_append, PySem.Str.length_append, PySem.Str.length_append, PySem.Str.length_append, sizeLine_eq]
  show 0 + z1.length + _ + _ + _ ≤ _
  omega
theorem js_2 {t1 : TE} {z1 : Str} {i1 : Int} {σ : L2.St} {H : Hp} {Q : Str → Hp → Prop} (h1 : ∀ {Q : VK}, Q (.int i1) H → t1 σ H Q) (b1 : i1.natAbs < 2 ^ 64) (l1 : z1.length ≤ 100)
    (k : ∀ out, Q out H) : tJs [tC (.str z1), tFmt t1] Str.empty σ H Q := by
  have i1' := int_text_len_1921 (log_small b1)
  refine ⟨z1, rfl, ?_, ?_⟩
  · rw [PySem.Str.length_append, sizeLine_eq]
    show 0 + z1.length ≤ _
    omega
  refine h1 (.inr ⟨i1, rfl, log_small b1, _, rfl, ?_, k _⟩)
  rw [PySem.Str.length_append, PySem.Str.length_append, sizeLine_eq]
  show 0 + z1.length + _ ≤ _
  omega
theorem iteN2 {c A B : Prop} [Decidable c] (h1 : ¬ c → A) (h2 : c → B) : if (!decide c) = true then A else B := by
  by_cases h : c
  · rw [if_neg (by simp [h])]
    exact h2 h
  · rw [if_pos (by simp [h])]
    exact h1 h
theorem iteB {b : Bool} {A B : Prop} (h1 : b = false → A) (h2 : b = true → B) : if (!b) = true then A else B := by
  cases b with
  | false => exact h1 rfl
  | true => exact h2 rfl
theorem iteT0 {A B : Prop} (h : A) : if (!false) = true then A else B := by
  exact h
theorem ixN_in {n : Nat} {k : Int} (h0 : 0 ≤ k) (h1 : k < n) : ixN n k = some k.toNat := by
  unfold ixN
  rw [if_pos h0, if_pos h1]
theorem lit_at {ns : List Int} {i : Int} (h0 : 0 ≤ i) (h1 : i < ns.length) : ∃ x ∈ ns, atI (ns.map V.int) i = some (.int x) := by
  have lt : i.toNat < ns.length := by omega
  exact ⟨ns[i.toNat], List.getElem_mem lt, atI_get? h0 (List.getElem?_eq_getElem lt)⟩
def tInv (I J : L2.St → Hp → Prop) : TS := fun D σ H => I σ H ∧ ∀ σ' H', J σ' H' → D.nx σ' H'
theorem cut_ints (ns : List Int) (lo hi : Option Int) : ∃ ms : List Int, cutV (ns.map V.int) lo hi = ms.map V.int ∧ ms.length ≤ ns.length := by
  refine ⟨(ns.drop (HT.sIx ns.length 0 lo)).take (HT.sIx ns.length ns.length hi - HT.sIx ns.length 0 lo), ?_, ?_⟩
  · unfold cutV
    rw [List.length_map, List.map_take, List.map_drop]
  · rw [List.length_take, List.length_drop]
    omega
end Mz

set_option Elab.async false
set_option linter.all false
set_option maxRecDepth 100000
set_option maxHeartbeats 4000000
/-! min and max of a tuple of ints -/
namespace Mz
open PySem PySem.Spec PyProof.Rows L2
theorem alikeAll_ints (ns : List Int) : PySem.W.AlikeAll (ns.map PyData.int) := by
  refine ⟨fun x hx y hy => ?_, fun x hx => ?_⟩
  · obtain ⟨n, _, rfl⟩ := List.mem_map.mp hx
    obtain ⟨m, _, rfl⟩ := List.mem_map.mp hy
    rfl
  · obtain ⟨n, _, rfl⟩ := List.mem_map.mp hx
    exact fun z => by cases z
def rMinT (K : PySem.W.Frag) : List V → Hp → VK → Prop := fun vs H Q => ∃ (a : Addr) (n : Int) (ns : List Int), vs = [V.ref a] ∧ SqT K H a ((n :: ns).map V.int) ∧ Q (.int (ns.foldl min n)) H
def rMaxT (K : PySem.W.Frag) : List V → Hp → VK → Prop := fun vs H Q => ∃ (a : Addr) (n : Int) (ns : List Int), vs = [V.ref a] ∧ SqT K H a ((n :: ns).map V.int) ∧ Q (.int (ns.foldl max n)) H
section
variable {X : Cx}
theorem call_minT (hc : X.calm = true) (hu : X.A.units + 64 < cLine) : CallR X (.builtin "min") (rMinT X.K) := by
  intro pins s σ H vs us Q I r h
  obtain ⟨a, n, ns, rfl, hs, q⟩ := h
  obtain ⟨its, rv, hl, _⟩ := I.tuple hs
  rw [Vals.ref1 r]
  obtain ⟨as, h4⟩ := Dp.readsAll I _ _ its (dp_ints (n :: ns)) rv
  have dd := depth_ints (n :: ns)
  refine PySem.W.min_tuple_data (x := .int n) (xs := ns.map .int) (I.ok.hd hc) (show s.heap.IsTuple a its.toArray from hl) h4 (alikeAll_ints (n :: ns)) (by show X.A.units + 1 + PyData.depthAll ((n :: ns).map PyData.int) < cLine; omega) fun i v h' tk bs _ rd hk => ?_
  rw [PySem.W.minD_ints] at rd
  cases rd
  exact ⟨.int _, H, I.kept hk, ⟨_, rfl⟩, q⟩
theorem call_maxT (hc : X.calm = true) (hu : X.A.units + 64 < cLine) : CallR X (.builtin "max") (rMaxT X.K) := by
  intro pins s σ H vs us Q I r h
  obtain ⟨a, n, ns, rfl, hs, q⟩ := h
  obtain ⟨its, rv, hl, _⟩ := I.tuple hs
  rw [Vals.ref1 r]
  obtain ⟨as, h4⟩ := Dp.readsAll I _ _ its (dp_ints (n :: ns)) rv
  have dd := depth_ints (n :: ns)
  refine PySem.W.max_tuple_data (x := .int n) (xs := ns.map .int) (I.ok.hd hc) (show s.heap.IsTuple a its.toArray from hl) h4 (alikeAll_ints (n :: ns)) (by show X.A.units + 1 + PyData.depthAll ((n :: ns).map PyData.int) < cLine; omega) fun i v h' tk bs _ rd hk => ?_
  rw [PySem.W.maxD_ints] at rd
  cases rd
  exact ⟨.int _, H, I.kept hk, ⟨_, rfl⟩, q⟩
end
theorem foldl_min_le (n : Int) (ns : List Int) (k : Int) : k ≤ ns.foldl min n ↔ ∀ x ∈ n :: ns, k ≤ x := by
  induction ns generalizing n with
  | nil => simp
  | cons m ns ih =>
    rw [List.foldl_cons, ih]
    simp only [List.mem_cons, forall_eq_or_imp]
    constructor
    · intro ⟨h1, h2⟩
      exact ⟨by omega, by omega, h2⟩
    · intro ⟨h1, h2, h3⟩
      exact ⟨by omega, h3⟩
theorem foldl_max_le (n : Int) (ns : List Int) (k : Int) : ns.foldl max n ≤ k ↔ ∀ x ∈ n :: ns, x ≤ k := by
  induction ns generalizing n with
  | nil => simp
  | cons m ns ih =>
    rw [List.foldl_cons, ih]
    simp only [List.mem_cons, forall_eq_or_imp]
    constructor
    · intro ⟨h1, h2⟩
      exact ⟨by omega, by omega, h2⟩
    · intro ⟨h1, h2, h3⟩
      exact ⟨by omega, h3⟩
end Mz

set_option Elab.async false
set_option linter.all false
set_option maxRecDepth 100000
set_option maxHeartbeats 4000000
/-! try: .. except A as e: .. except B: .. : the first handler with a name, the others without -/
namespace Mz
open PySem PySem.Spec PyProof.Rows L2 L2N
/-- what a suite's end says of the try -/
theorem suite_end {X : Cx} {pins : List (Addr × Obj)} {a : Addr} {oe : Obj} (o : X.Ok) {D : Ends} {fl : Flow} {t : Shared} (z : SP (X.suite a ((a, oe) :: (X.pn ++ pins))) [] D fl t) : SP X pins D fl t := by
  cases fl with
  | next => exact (let ⟨σ1, G1, J, q⟩ := z; ⟨σ1, G1, J.unsuite o, q⟩)
  | brk => exact (let ⟨σ1, G1, J, q⟩ := z; ⟨σ1, G1, J.unsuite o, q⟩)
  | cont => exact (let ⟨σ1, G1, J, q⟩ := z; ⟨σ1, G1, J.unsuite o, q⟩)
  | ret u => exact (let ⟨v, σ1, G1, J, r, q⟩ := z; ⟨v, σ1, G1, J.unsuite o, r, q⟩)
section
variable {X : Cx} {x n : Str} {c : Value} {i : Nat} {body suite : List Stmt} {b₀ : Stmt} {np pos pos' : Pos} {tb : WX → TS} {ts : Addr → Value → Option Addr → TS} {Wout : WX} {hds : List ExceptHandler} {l : List (Value × (Addr → Value → Option Addr → TS))}
theorem ps_try_as_many (stk : X.stack = X.env :: X.outer) (own : X.env.frame = some X.env.locals) (nod : X.N.Nodup) (slot : X.N[i]? = some n) (loc : X.env.kindOf n = some .local) (nm : Names X x c) (out : L2N.Takes X Wout)
    (hbody : ∀ (W : WX) (pn : List (Addr × Obj)) (xe : Value → Shared → Prop), L2N.Takes (X.tr pn xe) W → PassesOwn (model X.prog X.w) X.A X.env xe → PSs (X.tr pn xe) body (tb W))
    (hfirst : ∀ (a : Addr) (oe : Obj) (cls : Value) (d : Option Addr) (pn : List (Addr × Obj)), Zn cls d oe → (∃ vs, oe.data = .fields vs) → PSs (X.suite a ((a, oe) :: pn)) (b₀ :: suite) (ts a cls d))
    (rest : L2N.HdsOk X hds l) : PS X (.Try body (.ExceptHandler (some (.Name x np)) (some n) (b₀ :: suite) pos' :: hds) [] [] pos) (fun D σ H => tb (wAs X.K c i ts (wMany X.K Wout D l) D) D σ H) := by
  refine ⟨fun pins s0 σ0 H0 D I0 start => ?_⟩
  have ok := I0.ok
  have frm : X.A.frames = some (X.env :: X.outer) := ok.frames.trans (congrArg some stk)
  refine wpAny_Try_except (wpAny_mono ((hbody (wAs X.K c i ts (wMany X.K Wout D l) D) (X.pn ++ pins) (fun e t1 => wpAny (model X.prog X.w) X.A (noteFrame e X.env) (fun _ t2 => wpAny (model X.prog X.w) X.A (setFlight e none) (fun _ t3 =>
    wpAny (model X.prog X.w) X.A (handleBy e X.env (.ExceptHandler (some (.Name x np)) (some n) (b₀ :: suite) pos' :: hds)) (SP X pins D) X.xe t3) X.xe t2) X.xe t1) (fun u t caught => ?_) PassesOwn.looking).run [] s0 σ0 H0 D (I0.toTry _) start) (fun fl t z => ?_) (fun _ _ e => e))
  · obtain ⟨a, B, tI, pins1, σ1, G1, cls, d, rfl, J1, nb, up, inSky, free, os, ag, b, hit, yes, no⟩ := caught
    have J : Inv X pins σ1 G1 tI := J1.ofTry ok
    refine Sky.land Zn.steady frm own (by rw [← stk]; exact inSky) fun g down up2 => ?_
    have JL : Inv X pins σ1 G1 { t with heap := g } := J.landed nb down.1 (up.trans up2) os ag
    obtain ⟨oe, vs, at_, zn, dat⟩ := down.there
    have out1 : a ∉ frs (X.env :: X.outer) := fun hm => by
      obtain ⟨_, o2, e2, z2⟩ := down.2.2.1.mem hm
      rw [at_] at e2
      cases e2
      exact z2 _ dat
    have notL : a ≠ X.env.locals := fun z => out1 (List.mem_filterMap.mpr ⟨X.env, List.mem_cons_self, by rw [own, z]⟩)
    have notF : a ∉ X.fs := fun hm => (List.mem_filterMap.mp hm).elim fun e q => out1 (List.mem_filterMap.mpr ⟨e, List.mem_cons_of_mem _ q.1, q.2⟩)
    have JS := JL.suite at_ dat free notL notF
    have ask : ∀ {y : Str} {k : Value} {q : Pos} {R : Value → Shared → Prop} {E : Value → Shared → Prop}, Names X y k → R k { t with heap := g } → wpAny (model X.prog X.w) (X.A.mark (some (.ref a))) (eval (.Name y q) X.env) R E { t with heap := g } := fun {y k q R E} nk r => by
      obtain ⟨g1, g2, g3 | ⟨g3, g4, g5⟩⟩ := nk
      · exact ld_glob (X := X.suite a ((a, oe) :: (X.pn ++ pins))) JS g1 g3 r g2
      · exact ld_blt (X := X.suite a ((a, oe) :: (X.pn ++ pins))) JS g1 g3 g4 r g5 g2
    have kind : PySem.W.Looks (model X.prog X.w) g (typeOf (.ref a)) cls := fun _ _ _ _ kp r => wpAny_typeOf_ref (kp _ _ at_) (zn.1.symm ▸ r)
    -- the handlers behind the first
    have behind : ∀ {hs2 : List ExceptHandler} {l2 : List (Value × (Addr → Value → Option Addr → TS))}, L2N.HdsOk X hs2 l2 → wMany X.K Wout D l2 cls d σ1 G1 → wpAny (model X.prog X.w) X.A (handleBy (.ref a) X.env hs2) (SP X pins D) X.xe { t with heap := g } := by
      intro hs2 l2 hk
      induction hk with
      | nil =>
        intro w
        obtain ⟨_, _, _, oe1, vs1, T, oT, ts1, e1, _, e3, e4, _⟩ := id down
        refine wpAny_handleBy_nil ?_
        unfold PySem.passOn
        refine wpAny_bind (wpAny_field e1 e3 e4 ?_)
        rw [if_neg (by simp : ¬ ((Value.ref T == Value.none) = true))]
        have go : wpAny (model X.prog X.w) X.A (setFlight (.ref a) X.env.frame) (fun _ t4 => wpAny (model X.prog X.w) X.A (throw (.ref a) : Sem Flow) (SP X pins D) X.xe t4) X.xe { t with heap := g } := by
          rw [own]
          exact HandSPX.setFlight_upZ down fun g4 sky4 up4 => wpAny_throw (out _ _ ⟨a, B, tI, pins, σ1, G1, cls, d, rfl, J, nb, (up.trans up2).trans up4, .inr (.inr (by rw [stk]; exact sky4)), free, os, ag, w⟩)
        first
          | exact wpAny_bind (wpAny_pure (wpAny_bind go))
          | exact wpAny_bind go
      | @cons y k ts2 b2 suite2 np2 pos2 hs3 l3 nk hs r ih =>
        rintro ⟨b2, hit2, yes2, no2⟩
        refine wpAny_handleBy_cons (codeAny_handlers_test (ask nk ((PySem.W.exm_one (M := model X.prog X.w) JL.kIn kind hit2).here ?_))) (by intro q; cases q)
        cases b2 with
        | false =>
          show wpAny _ X.A (handleBy (.ref a) X.env hs3) _ _ _
          exact ih (no2 rfl)
        | true =>
          refine codeAny_handlers_suite (HandSPX.lands_againZ down fun g4 down4 up4 => ?_)
          obtain ⟨oe4, vs4, at4, zn4, dat4⟩ := down4.there
          have J4 : Inv X pins σ1 G1 { t with heap := g4 } := J.landed nb down4.1 ((up.trans up2).trans up4) os ag
          exact wpAny_mono ((hs a oe4 cls d (X.pn ++ pins) zn4 ⟨_, dat4⟩).run [] _ _ G1 _ (J4.suite at4 dat4 free notL notF) (yes2 rfl a free)) (fun fl t6 z => suite_end ok z) fun _ _ z => z.elim
    refine wpAny_handleBy_cons (codeAny_handlers_test (ask nm ((PySem.W.exm_one (M := model X.prog X.w) JL.kIn kind hit).here ?_))) (by intro q; cases q)
    cases b with
    | false =>
      show wpAny _ X.A (handleBy (.ref a) X.env hds) _ _ _
      exact behind rest (no rfl)
    | true =>
      refine codeAny_handlers_suite_as (HandSPX.lands_againZ down fun g4 down4 up4 => ?_)
      obtain ⟨oe4, vs4, at4, zn4, dat4⟩ := down4.there
      have J4 : Inv X pins σ1 G1 { t with heap := g4 } := J.landed nb down4.1 ((up.trans up2).trans up4) os ag
      refine store_ok (X := X.suite a ((a, oe4) :: (X.pn ++ pins))) (v := .ref a) (J4.suite at4 dat4 free notL notF) nod slot (.inl loc) rfl (fun t5 J5 => ?_) (.inr loc)
      refine wpAny_mono ((hfirst a oe4 cls d (X.pn ++ pins) zn4 ⟨_, dat4⟩).run [] t5 _ G1 _ J5 (yes rfl a free)) (fun fl t6 z => ?_) fun _ _ z => z.elim
      have unbind : ∀ {σ6 : L2.St} {G6 : Hp} {R : Shared → Prop}, Inv (X.suite a ((a, oe4) :: (X.pn ++ pins))) [] σ6 G6 t6 → (∀ t7, Inv X pins (σ6.set i none) G6 t7 → R t7) → wpAny (model X.prog X.w) X.A (do bindName X.env n .none; unbindBehindTheSuite X.env n pos') (fun _ t7 => R t7) X.xe t6 :=
        fun J6 r => gone_ok (J6.unsuite ok) nod slot loc r
      cases fl with
      | next => exact (let ⟨σ6, G6, J6, q⟩ := z; unbind J6 fun t7 J7 => ⟨_, _, J7, q⟩)
      | brk => exact (let ⟨σ6, G6, J6, q⟩ := z; unbind J6 fun t7 J7 => ⟨_, _, J7, q⟩)
      | cont => exact (let ⟨σ6, G6, J6, q⟩ := z; unbind J6 fun t7 J7 => ⟨_, _, J7, q⟩)
      | ret u => exact (let ⟨v, σ6, G6, J6, r, q⟩ := z; unbind J6 fun t7 J7 => ⟨_, _, _, J7, r, q⟩)
  · cases fl with
    | next => exact wpAny_execs_nil (let ⟨σ1, G1, J, q⟩ := z; ⟨σ1, G1, J.ofTry ok, q⟩)
    | brk => exact (let ⟨σ1, G1, J, q⟩ := z; ⟨σ1, G1, J.ofTry ok, q⟩)
    | cont => exact (let ⟨σ1, G1, J, q⟩ := z; ⟨σ1, G1, J.ofTry ok, q⟩)
    | ret u => exact (let ⟨v, σ1, G1, J, r, q⟩ := z; ⟨v, σ1, G1, J.ofTry ok, r, q⟩)
end
end Mz

set_option Elab.async false
set_option linter.all false
set_option maxRecDepth 100000
set_option maxHeartbeats 4000000
/-! ranks and trees -/
namespace Mz
open PySem PySem.Spec PyProof.Rows L2
theorem inVI (c : Int) (ns : List Int) : inV (.int c) (ns.map V.int) = decide (c ∈ ns) := by
  unfold inV
  rw [List.any_map]
  induction ns with
  | nil => simp
  | cons n ns ih =>
    rw [List.any_cons, ih]
    have e : ((fun y => eqV y (V.int c)) ∘ V.int) n = decide (n = c) := by
      show eqV (V.int n) (V.int c) = _
      simp only [eqV]
      by_cases h : n = c <;> simp [h]
    rw [e]
    by_cases h : n = c
    · simp [h]
    · have h2 : ¬ c = n := fun z => h z.symm
      simp [h, h2]
theorem flatI (ns : List Int) : (ns.map V.int).all flatV = true := by
  rw [List.all_eq_true]
  intro x hx
  obtain ⟨n, _, rfl⟩ := List.mem_map.mp hx
  rfl
/-- what is lacking behind the symbols -/
def lackG (rs : List Int) : List Int → Int → Option Int
  | [], n => some n
  | s :: t, n => if n = 0 then none else lackG rs t (n + (rs.getD s.toNat 0 - 1))
/-- a tree over the ranks -/
def treeB (rs t : List Int) : Bool := decide (t.length ≤ 400) && belowB t rs.length && (lackG rs t 1 == some 0)
/-- ranks -/
def ranksB (rs : List Int) : Bool := decide (1 ≤ rs.length) && decide (rs.length ≤ 5) && belowB rs 3 && decide (0 ∈ rs)
theorem lack_drop {rs t : List Int} {i : Nat} {s n : Int} (h : t[i]? = some s) (e : lackG rs t 1 = lackG rs (t.drop i) n) : (n = 0 → lackG rs t 1 = none) ∧ (n ≠ 0 → lackG rs t 1 = lackG rs (t.drop (i + 1)) (n + (rs.getD s.toNat 0 - 1))) := by
  have hd : t.drop i = s :: t.drop (i + 1) := by
    obtain ⟨lt, e⟩ := List.getElem?_eq_some_iff.mp h
    rw [List.drop_eq_getElem_cons lt, e]
  rw [hd] at e
  constructor
  · intro z
    rw [e, lackG, if_pos z]
  · intro z
    rw [e, lackG, if_neg z]
theorem below_at {ns : List Int} {L z : Int} {i : Nat} (h : belowB ns L = true) (e : ns[i]? = some z) : 0 ≤ z ∧ z < L := below_iff.mp h z (List.mem_of_getElem? e)
theorem getD_at {rs : List Int} {z : Int} (h0 : 0 ≤ z) (h1 : z < rs.length) : rs[z.toNat]? = some (rs.getD z.toNat 0) := by
  have lt : z.toNat < rs.length := by omega
  rw [List.getD_eq_getElem?_getD, List.getElem?_eq_getElem lt]
  rfl
theorem dec_intB (x y : Int) : decide (V.int x = V.int y) = (some x == some y) := by
  by_cases h : x = y <;> simp [h]
theorem Kp.seqT {Pt : Addr} {H H' : Hp} {K : PySem.W.Frag} {a : Addr} {xs : List V} (t : GxR.TabG H Pt) (k : Kp Pt H H') (h : SqT K H a xs) : SqT K H' a xs := by
  rcases h with (h | ⟨o, h⟩) | h
  · exact .inl (.inl (k.keep _ _ (tab_ne t h (fun ps z => by cases z)) h))
  · exact .inl (.inr ⟨o, k.keep _ _ (tab_ne t h (fun ps z => by cases z)) h⟩)
  · exact .inr h
theorem ixN_inR {n : Nat} {k : Int} (h0 : 0 ≤ k) (h1 : k < n) : ixN n k = some k.toNat := by
  unfold ixN
  rw [if_pos h0, if_pos h1]
theorem mem_set_self {l : List Int} {j : Nat} {x : Int} (h : j < l.length) : x ∈ l.set j x := List.mem_iff_getElem?.mpr ⟨j, List.getElem?_set_self h⟩
theorem mem_set_or {l : List Int} {j : Nat} {x z : Int} (h : z ∈ l.set j x) : z ∈ l ∨ z = x := List.mem_or_eq_of_mem_set h
theorem same_seqT {H H' : Hp} {K : PySem.W.Frag} {a : Addr} {xs : List V} (k : Same H H') (h : SqT K H a xs) : SqT K H' a xs := by
  rcases h with (h | ⟨o, h⟩) | h
  · exact .inl (.inl (k _ _ h))
  · exact .inl (.inr ⟨o, k _ _ h⟩)
  · exact .inr h
theorem dec_intD (x y : Int) : decide (V.int x = V.int y) = decide (x = y) := by simp
theorem seqIxR {n : Nat} {i : Int} (h0 : 0 ≤ i) (h1 : i < n) : seqIndex? i n = some i.toNat := by
  have e := ixN_inR h0 h1
  exact (ixN_seq e).1
theorem ofInts : ∀ {xs : List V}, (∀ x ∈ xs, ∃ z : Int, x = .int z) → ∃ us : List Int, xs = us.map V.int ∧ us.length = xs.length
  | [], _ => ⟨[], rfl, rfl⟩
  | x :: xs, h => by
    obtain ⟨z, rfl⟩ := h x List.mem_cons_self
    obtain ⟨us, e, l⟩ := ofInts (xs := xs) fun y hy => h y (List.mem_cons_of_mem _ hy)
    exact ⟨z :: us, by rw [e]; rfl, by show us.length + 1 = xs.length + 1; omega⟩
theorem intsMem {ns : List Int} {x : V} (h : x ∈ ns.map V.int) : ∃ z : Int, x = .int z := by
  obtain ⟨n, _, e⟩ := List.mem_map.mp h
  exact ⟨n, e.symm⟩
theorem cutMem {xs : List V} {lo hi : Option Int} {x : V} (h : x ∈ cutV xs lo hi) : x ∈ xs := by
  unfold cutV at h
  exact List.mem_of_mem_drop (List.mem_of_mem_take h)
theorem sIx_at {n d : Nat} {i : Int} (h0 : 0 ≤ i) (h1 : i ≤ n) : HT.sIx n d (some i) = i.toNat := by
  have e : i = ((i.toNat : Nat) : Int) := by omega
  rw [e, HT.sIx_nat]
  omega
theorem cut_take {xs : List V} {i : Int} (h0 : 0 ≤ i) (h1 : i ≤ xs.length) : cutV xs none (some i) = xs.take i.toNat := by
  unfold cutV
  rw [HT.sIx_none, sIx_at h0 h1, List.drop_zero, Nat.sub_zero]
theorem cut_drop {xs : List V} {i : Int} (h0 : 0 ≤ i) (h1 : i ≤ xs.length) : cutV xs (some i) none = xs.drop i.toNat := by
  unfold cutV
  rw [HT.sIx_none, sIx_at h0 h1, List.take_of_length_le (by rw [List.length_drop]; exact Nat.le_refl _)]
theorem cut_mid {xs : List V} {i j : Int} (h0 : 0 ≤ i) (h1 : i ≤ j) (h2 : j ≤ xs.length) : cutV xs (some i) (some j) = (xs.drop i.toNat).take (j.toNat - i.toNat) := by
  unfold cutV
  rw [sIx_at h0 (by omega), sIx_at (by omega) h2]
end Mz

set_option Elab.async false
set_option linter.all false
set_option maxRecDepth 100000
set_option maxHeartbeats 4000000
/-! tree machines -/
namespace Mz
open PySem PySem.Spec PyProof.Rows L2
/-! ### tuples: index, slices and sums; a loop over reversed -/
def rTupIdx (K : PySem.W.Frag) : V → List V → Hp → VK → Prop := fun x xs H Q => ∃ (p : Addr) (ns : List Int) (k : Int), x = .ref p ∧ xs = [.int k] ∧ SqT K H p (ns.map V.int) ∧ k ∈ ns ∧ Q (.int (ns.idxOf k : Nat)) H
theorem mt_tupIdx {X : Cx} : MtR X "tuple.index" (rTupIdx X.K) := by
  intro pins s σ H x xs v us Q I rx rs h
  obtain ⟨p, ns, k, rfl, rfl, hq, hk, q⟩ := h
  cases rx
  obtain ⟨u, rfl, t, rfl⟩ := vals1 rs
  obtain ⟨its, r, pl, hz⟩ := I.tuple hq
  exact PySem.SeqAt.tuple_index_ints (show s.heap.IsTuple p its.toArray from pl) r.ints hk ⟨.int _, H, I.tok _, ⟨_, rfl⟩, q⟩
/-- tuple(list): the object is known -/
def rTupF (K : PySem.W.Frag) : List V → Hp → VK → Prop := fun xs H Q => ∃ p ys, xs = [.ref p] ∧ SqL K H p ys ∧ ∀ (l : Addr) (o : Obj), H l = none → o.dict = none → Q (.ref l) (upd H l (.frz o (.tup ys)))
theorem call_tupleF {X : Cx} : CallR X (.type "tuple") (rTupF X.K) := by
  intro pins s σ H xs us Q I r h
  obtain ⟨p, ys, rfl, hq, q⟩ := h
  obtain ⟨u, rfl, rx⟩ := vals1 r
  cases rx
  obtain ⟨its, r', pl, hz⟩ := I.list hq
  have hlen := r'.length
  refine call_tuple_list pl.isList (fun h' kp => ?_) (by simp only [List.size_toArray] <;> omega)
  have I1 : Inv X pins σ H { s with heap := h' } := I.kept (t' := s.toks) kp
  have I2 : Inv X pins σ (upd H h'.objs.size (.frz { cls := .type "tuple", data := .seq its.toArray } (.tup ys))) { s with heap := h'.push { cls := .type "tuple", data := .seq its.toArray } } :=
    I1.laid (t' := s.toks) (fun b o e => Heap.get?_push_of_some _ e) (Nat.le_refl _) (show ObjOk X.prog X.w _ _ _ (.frz _ (.tup ys)) from ⟨Heap.get?_push_size _ rfl, hz, its, r', IsTup.new _ _⟩)
  exact ⟨.ref h'.objs.size, _, I2, rfl, q _ _ (I1.hok.fresh (Nat.le_refl _)) rfl⟩
/-- o.m(e, ..), o a tuple whose object is known -/
def tBMF (r : V → List V → Hp → VK → Prop) (to : TE) (t : TA) : TE := fun σ H Q => to σ H fun x H1 => (∃ (p : Addr) (o : Obj) (u : List V), x = .ref p ∧ H1 p = some (.frz o (.tup u)) ∧ o.dict = none) ∧ t σ H1 fun xs H2 => r x xs H2 Q
theorem pe_bmF {X : Cx} {o e : Expr} {es : List Expr} {to : TE} {t : TA} {name : Str} {apos cpos : Pos} {id : String} {r : V → List V → Hp → VK → Prop} (pa : PlainAttrs "tuple") (slot : Slot "tuple" name id) (hty : typeOf (.builtin id) = pure (.type "method_descriptor")) (hm : MtR X id r) (ho : PE X o to) (ha : PA X (e :: es) t)
    (hbase : attributeBase o name X.env (eval o X.env) = eval o X.env := by rfl)
    (hfew : ((backTo cpos (starEach (e :: es) X.env)).all (fun x => !x.1) && (backToKw cpos (keywordEach [] X.env)).all (fun x => x.1.isSome)
      && decide ((e :: es).length + ([] : List Keyword).length + (if ([] : List Keyword).isEmpty then 0 else 1) < 30)) = true := by rfl)
    (hline : (apos.endLine == cpos.line) = true := by rfl) (hs : starEach (e :: es) X.env = (false, eval e X.env) :: starEach es X.env := by rfl) (hplain : (backTo cpos (starEach es X.env)).any (·.1) = false := by rfl) :
    PE X (.Call (.Attribute o name apos) (e :: es) [] cpos) (tBMF r to t) := by
  refine ⟨fun pins s σ H Q I h => ?_⟩
  refine wpAny_Call_method_late hbase hfew hline rfl (thn (ho.run pins s σ H _ I h) fun v s1 ⟨x, H1, I1, r1, ⟨p, ob, u, ex, hp, nd⟩, q1⟩ => ?_)
  subst ex
  cases r1
  obtain ⟨g1, _, its, _, o2, g2, g3, _⟩ := (show ObjOk X.prog X.w H1 s1.heap p (.frz ob (.tup u)) from I1.hok p _ hp)
  have eo : ob = o2 := by
    rw [g1] at g2
    exact Option.some.inj g2
  subst eo
  refine ⟨"tuple", id, pa, slot, hty, ⟨ob, g1, g3⟩, fun a ea => ?_, ?_⟩
  · cases ea
    exact ⟨ob, g1, nd⟩
  have hA := ha.run cpos pins s1 σ H1 _ I1 q1
  rw [hs] at hA ⊢
  refine Calls.callWith_builtin (by show (false || (backTo cpos (starEach es X.env)).any (·.1)) = false; rw [hplain] <;> rfl) (Calls.evalArgs_plain ?_)
  exact thn hA fun us s2 ⟨vs, H2, I2, r2, q2⟩ => hm pins s2 σ H2 (.ref p) vs (.ref p) us Q I2 rfl r2 q2
theorem rd_same {H H' : Hp} {a : Addr} {o : HO} (s : Same H H') (h : Rd H a o) : Rd H' a o := by
  rcases h with h | ⟨u, h⟩
  · exact .inl (s _ _ h)
  · exact .inr ⟨u, s _ _ h⟩
theorem rd_t {K : PySem.W.Frag} {H : Hp} {a : Addr} {xs : List V} (h : Rd H a (.tup xs)) : SqT K H a xs := .inl h
theorem Kp.rd {Pt : Addr} {H H' : Hp} {a : Addr} {xs : List V} (t : GxR.TabG H Pt) (k : Kp Pt H H') (h : Rd H a (.tup xs)) : Rd H' a (.tup xs) := by
  rcases h with h | ⟨u, h⟩
  · exact .inl (k.tup t h)
  · exact .inr ⟨u, k.keep _ _ (tab_ne t h (fun ps z => by cases z)) h⟩
theorem slA_rd {K : PySem.W.Frag} {H : Hp} {a : Addr} {xs : List V} {lo hi : Option Int} {Q : VK} (h : Rd H a (.tup xs)) (q : ∀ H' p, Same H H' → Rd H' p (.tup (cutV xs lo hi)) → Q (.ref p) H') : rSlA K (.ref a) lo hi H Q := by
  refine ⟨a, xs, rfl, rd_t h, fun z => ?_, fun _ p hp => q _ p (same_upd (Same.refl H) hp) (.inl upd_same)⟩
  refine q H a (Same.refl H) ?_
  have e : cutV xs lo hi = xs := by
    unfold cutV
    rw [z.1, z.2, List.drop_zero, Nat.sub_zero, List.take_length]
  rw [e]
  exact h
theorem catA_rd {K : PySem.W.Frag} {H : Hp} {a b : Addr} {xs ys : List V} {Q : VK} (h1 : Rd H a (.tup xs)) (h2 : Rd H b (.tup ys)) (l : xs.length + ys.length ≤ sizeLine) (q : ∀ H' p, Same H H' → Rd H' p (.tup (xs ++ ys)) → Q (.ref p) H') : rCatA K (.ref a) (.ref b) H Q := by
  refine ⟨a, b, xs, ys, rfl, rfl, rd_t h1, rd_t h2, l, fun z => ?_, fun _ z => ?_, fun _ _ p hp => q _ p (same_upd (Same.refl H) hp) (.inl upd_same)⟩
  · subst z
    exact q H b (Same.refl H) h2
  · subst z
    exact q H a (Same.refl H) (by rw [List.append_nil]; exact h1)
theorem slA_any {K : PySem.W.Frag} {H : Hp} {a : Addr} {xs : List V} {lo hi : Option Int} {Q : VK} (h : H a = some (.tup xs)) (q : ∀ H' p, Same H H' → H' p = some (.tup (cutV xs lo hi)) → Q (.ref p) H') : rSlA K (.ref a) lo hi H Q := by
  refine ⟨a, xs, rfl, SqT.of h, fun z => ?_, fun _ p hp => q _ p (same_upd (Same.refl H) hp) upd_same⟩
  refine q H a (Same.refl H) ?_
  rw [h]
  unfold cutV
  rw [z.1, z.2, List.drop_zero, Nat.sub_zero, List.take_length]
theorem catA_any {K : PySem.W.Frag} {H : Hp} {a b : Addr} {xs ys : List V} {Q : VK} (h1 : H a = some (.tup xs)) (h2 : H b = some (.tup ys)) (l : xs.length + ys.length ≤ sizeLine) (q : ∀ H' p, Same H H' → H' p = some (.tup (xs ++ ys)) → Q (.ref p) H') : rCatA K (.ref a) (.ref b) H Q := by
  refine ⟨a, b, xs, ys, rfl, rfl, SqT.of h1, SqT.of h2, l, fun z => ?_, fun _ z => ?_, fun _ _ p hp => q _ p (same_upd (Same.refl H) hp) upd_same⟩
  · subst z
    exact q H b (Same.refl H) h2
  · subst z
    exact q H a (Same.refl H) (by rw [List.append_nil]; exact h1)
theorem for_rev {K : PySem.W.Frag} {a : Addr} {xs : List V} {g : TG} {tb : TS} {D : Ends} {σ : L2.St} {H : Hp} (Pv : Nat → L2.St → Hp → Prop) (h0 : Pv 0 σ H) (hl : ∀ i σ H, i ≤ xs.length → Pv i σ H → SqL K H a xs)
    (hs : ∀ i x σ H, i < xs.length → xs[xs.length - 1 - i]? = some x → Pv i σ H → g x σ H fun σ2 H2 => tb { D with nx := Pv (i + 1), ct := Pv (i + 1), bk := D.nx } σ2 H2) (hd : ∀ σ H, Pv xs.length σ H → D.nx σ H) :
    ∃ W : Nat → Nat → L2.St → Hp → Prop, (∃ m, W 0 m σ H) ∧ ∀ i m σ H, W i m σ H →
      ((Itv K a xs.length).stop i H ∧ D.nx σ H) ∨ ((Itv K a xs.length).go i H ∧ ∃ N : L2.St → Hp → Prop, (∀ σ' H', N σ' H' → ∃ m', m' < m ∧ W (i + 1) m' σ' H') ∧ ∀ x H', (Itv K a xs.length).yld i H x H' → g x σ H' fun σ2 H2 => tb { D with nx := N, ct := N, bk := D.nx } σ2 H2) := by
  refine ⟨fun i m σ H => m = xs.length - i ∧ i ≤ xs.length ∧ Pv i σ H, ⟨xs.length, by simp, Nat.zero_le _, h0⟩, ?_⟩
  rintro i m σ H ⟨rfl, hi, p⟩
  have q := hl i σ H hi p
  by_cases hlt : i < xs.length
  · have hx : xs[xs.length - 1 - i]? = some (xs[xs.length - 1 - i]'(by omega)) := List.getElem?_eq_getElem _
    refine .inr ⟨⟨hlt, xs, _, q, hx⟩, Pv (i + 1), fun σ' H' p' => ⟨xs.length - (i + 1), by omega, rfl, hlt, p'⟩, fun x H' y => ?_⟩
    obtain ⟨e, y⟩ := y
    subst e
    exact hs i x σ _ hlt (y xs q) p
  · have e : i = xs.length := by omega
    subst e
    exact .inl ⟨Nat.le_refl _, hd σ H p⟩
/-! ### ranks -/
theorem ranks_iff {rs : List Int} : ranksB rs = true ↔ 1 ≤ rs.length ∧ rs.length ≤ 5 ∧ (∀ z ∈ rs, 0 ≤ z ∧ z < 3) ∧ (0 : Int) ∈ rs := by
  unfold ranksB
  rw [Bool.and_eq_true, Bool.and_eq_true, Bool.and_eq_true, decide_eq_true_iff, decide_eq_true_iff, decide_eq_true_iff, below_iff]
  constructor
  · intro ⟨⟨⟨a, b⟩, c⟩, d⟩
    exact ⟨a, b, c, d⟩
  · intro ⟨a, b, c, d⟩
    exact ⟨⟨⟨a, b⟩, c⟩, d⟩
/-! ### tree machines -/
structure TM where
  rs : List Int
  os : Int
  rules : List (List Int)
  outs : List Int
def TM.n (M : TM) : Int := M.outs.length
/-- the entry for kids -/
def plc (n : Int) (kids : List Int) : Int := kids.foldl (fun at_ k => at_ * n + k) 0
def TM.rank (M : TM) (s : Int) : Int := M.rs.getD s.toNat 0
def TM.rule (M : TM) (s : Int) : List Int := M.rules.getD s.toNat []
def TM.to (M : TM) (s : Int) (kids : List Int) : Int := (M.rule s).getD (plc M.n kids).toNat 0
/-- a symbol is read: its kids are on top -/
def stepS (M : TM) (st : List Int) (s : Int) : List Int := M.to s (st.take (M.rank s).toNat) :: st.drop (M.rank s).toNat
/-- what stands there when a list is read from its end -/
def stackS (M : TM) (t : List Int) : List Int := t.foldr (fun s st => stepS M st s) []
def TM.stateT (M : TM) (t : List Int) : Int := (stackS M t).headD 0
structure GoodT (M : TM) : Prop where
  rk : ranksB M.rs = true
  o1 : 1 ≤ M.os
  o4 : M.os ≤ 4
  n1 : 1 ≤ M.outs.length
  n6 : M.outs.length ≤ 6
  ob : Lt M.os M.outs
  rl : M.rules.length = M.rs.length
  sz : ∀ (i : Nat) (r : Int) (w : List Int), M.rs[i]? = some r → M.rules[i]? = some w → w.length = M.outs.length ^ r.toNat
  rb : ∀ w ∈ M.rules, Lt (M.outs.length : Int) w
/-- the machine in the heap -/
structure TMt (H : Hp) (m : Addr) (M : TM) (r ru ou : Addr) (qs : List Addr) : Prop where
  top : H m = some (.tup [.ref r, .int M.os, .ref ru, .ref ou])
  rs : Rd H r (.tup (M.rs.map V.int))
  ru : H ru = some (.tup (qs.map V.ref))
  ou : H ou = some (.tup (M.outs.map V.int))
  len : qs.length = M.rules.length
  row : ∀ (i : Nat) (q : Addr) (w : List Int), qs[i]? = some q → M.rules[i]? = some w → H q = some (.tup (w.map V.int))
def TMA (H : Hp) (m : Addr) (M : TM) : Prop := ∃ r ru ou qs, TMt H m M r ru ou qs
theorem TMt.same {H H' : Hp} {m : Addr} {M : TM} {r ru ou : Addr} {qs : List Addr} (h : TMt H m M r ru ou qs) (s : Same H H') : TMt H' m M r ru ou qs :=
  ⟨s _ _ h.top, rd_same s h.rs, s _ _ h.ru, s _ _ h.ou, h.len, fun i q w a b => s _ _ (h.row i q w a b)⟩
theorem TMA.same {H H' : Hp} {m : Addr} {M : TM} (h : TMA H m M) (s : Same H H') : TMA H' m M := by
  obtain ⟨r, ru, ou, qs, h⟩ := h
  exact ⟨r, ru, ou, qs, h.same s⟩
theorem Kp.tmt {Pt : Addr} {H H' : Hp} {m : Addr} {M : TM} {r ru ou : Addr} {qs : List Addr} (t : GxR.TabG H Pt) (k : Kp Pt H H') (h : TMt H m M r ru ou qs) : TMt H' m M r ru ou qs :=
  ⟨k.tup t h.top, k.rd t h.rs, k.tup t h.ru, k.tup t h.ou, h.len, fun i q w a b => k.tup t (h.row i q w a b)⟩
theorem Kp.tma {Pt : Addr} {H H' : Hp} {m : Addr} {M : TM} (t : GxR.TabG H Pt) (k : Kp Pt H H') (h : TMA H m M) : TMA H' m M := by
  obtain ⟨r, ru, ou, qs, h⟩ := h
  exact ⟨r, ru, ou, qs, k.tmt t h⟩
theorem plc_snoc {n : Int} {ks : List Int} {k : Int} : plc n (ks ++ [k]) = plc n ks * n + k := by
  unfold plc
  rw [List.foldl_append]
  rfl
theorem plc_acc {n : Int} (hn : 0 < n) : ∀ (ks : List Int) (a : Int) (m : Nat), (∀ k ∈ ks, 0 ≤ k ∧ k < n) → 0 ≤ a ∧ a < n ^ m → 0 ≤ ks.foldl (fun at_ k => at_ * n + k) a ∧ ks.foldl (fun at_ k => at_ * n + k) a < n ^ (m + ks.length)
  | [], a, m, _, h => h
  | k :: ks, a, m, hk, ⟨a0, a1⟩ => by
    obtain ⟨c, d⟩ := hk k List.mem_cons_self
    have e1 : 0 ≤ a * n := Int.mul_nonneg a0 (by omega)
    have e2 : (a + 1) * n ≤ n ^ m * n := Int.mul_le_mul_of_nonneg_right (by omega) (by omega)
    rw [Int.add_mul, Int.one_mul, show n ^ m * n = n ^ (m + 1) from (Int.pow_succ n m).symm] at e2
    have ih := plc_acc hn ks (a * n + k) (m + 1) (fun z hz => hk z (List.mem_cons_of_mem _ hz)) ⟨by omega, by omega⟩
    rw [List.foldl_cons, List.length_cons, show m + (ks.length + 1) = m + 1 + ks.length by omega]
    exact ih
theorem plc_lt {n : Int} (hn : 0 < n) (ks : List Int) (h : ∀ k ∈ ks, 0 ≤ k ∧ k < n) : 0 ≤ plc n ks ∧ plc n ks < n ^ ks.length := by
  have := plc_acc hn ks 0 0 h ⟨Int.le_refl _, by rw [Int.pow_zero]; decide⟩
  rw [Nat.zero_add] at this
  exact this
def sumR (rs t : List Int) : Int := (t.map fun s => rs.getD s.toNat 0 - 1).sum
theorem lack_val {rs : List Int} : ∀ {t : List Int} {n k : Int}, lackG rs t n = some k → k = n + sumR rs t
  | [], n, k, h => by
    have e : n = k := Option.some.inj h
    rw [e]
    show k = k + 0
    omega
  | s :: t, n, k, h => by
    rw [lackG] at h
    by_cases z : n = 0
    · rw [if_pos z] at h
      cases h
    · rw [if_neg z] at h
      rw [lack_val h]
      show _ = n + ((rs.getD s.toNat 0 - 1) + sumR rs t)
      omega
theorem need_at {rs t : List Int} (h : lackG rs t 1 = some 0) (hr : ∀ z ∈ rs, 0 ≤ z) (ht : ∀ z ∈ t, 0 ≤ z ∧ z < (rs.length : Int)) : ∀ i : Nat, i ≤ t.length → ∃ n : Int, 0 ≤ n ∧ lackG rs (t.drop i) n = some 0 := by
  intro i
  induction i with
  | zero => intro _; exact ⟨1, by decide, h⟩
  | succ i ih =>
    intro hi
    obtain ⟨n, n0, e⟩ := ih (by omega)
    have lt : i < t.length := by omega
    rw [List.drop_eq_getElem_cons lt, lackG] at e
    by_cases z : n = 0
    · rw [if_pos z] at e
      cases e
    · rw [if_neg z] at e
      have q := ht t[i] (List.getElem_mem lt)
      have r0 := hr _ (List.mem_of_getElem? (getD_at q.1 q.2))
      exact ⟨_, by omega, e⟩
/-- what stands there when the list from the place i on is read -/
theorem stack_at {M : TM} (g : GoodT M) {t : List Int} (h : treeB M.rs t = true) : ∀ j : Nat, j ≤ t.length →
    (lackG M.rs (t.drop (t.length - j)) ((stackS M (t.drop (t.length - j))).length : Int) = some 0 ∧ ∀ z ∈ stackS M (t.drop (t.length - j)), 0 ≤ z ∧ z < M.n) ∧
    ∀ s, j < t.length → t[t.length - 1 - j]? = some s → (0 ≤ s ∧ s < (M.rs.length : Int)) ∧ 0 ≤ M.rank s ∧ (M.rank s).toNat ≤ (stackS M (t.drop (t.length - j))).length := by
  have h1 : lackG M.rs t 1 = some 0 ∧ ∀ z ∈ t, 0 ≤ z ∧ z < (M.rs.length : Int) := by
    unfold treeB at h
    rw [Bool.and_eq_true, Bool.and_eq_true] at h
    exact ⟨by simpa using h.2, below_iff.mp h.1.2⟩
  obtain ⟨hl, hb⟩ := h1
  have hr : ∀ z ∈ M.rs, 0 ≤ z := fun z hz => ((ranks_iff.mp g.rk).2.2.1 z hz).1
  have nn : 0 < M.n := by have := g.n1; show 0 < (M.outs.length : Int); omega
  have next : ∀ j : Nat, lackG M.rs (t.drop (t.length - j)) ((stackS M (t.drop (t.length - j))).length : Int) = some 0 → ∀ s, j < t.length → t[t.length - 1 - j]? = some s →
      (0 ≤ s ∧ s < (M.rs.length : Int)) ∧ 0 ≤ M.rank s ∧ (M.rank s).toNat ≤ (stackS M (t.drop (t.length - j))).length ∧ lackG M.rs (t.drop (t.length - (j + 1))) (((stackS M (t.drop (t.length - j))).length : Int) + 1 - M.rank s) = some 0 := by
    intro j e s hj hs
    have q := hb s (List.mem_of_getElem? hs)
    have r0 := hr _ (List.mem_of_getElem? (getD_at q.1 q.2))
    obtain ⟨n, n0, en⟩ := need_at hl hr hb (t.length - (j + 1)) (by omega)
    have dd : t.drop (t.length - (j + 1)) = s :: t.drop (t.length - j) := by
      obtain ⟨lt, e2⟩ := List.getElem?_eq_some_iff.mp hs
      have e3 : t.length - (j + 1) = t.length - 1 - j := by omega
      rw [e3, List.drop_eq_getElem_cons lt, e2]
      congr 2
      omega
    have en2 := en
    rw [dd, lackG] at en
    by_cases z : n = 0
    · rw [if_pos z] at en
      cases en
    · rw [if_neg z] at en
      have v1 := lack_val en
      have v2 := lack_val e
      have r0 : 0 ≤ M.rank s := r0
      have rr : M.rank s = M.rs.getD s.toNat 0 := rfl
      have en3 : (((stackS M (t.drop (t.length - j))).length : Int) + 1 - M.rank s) = n := by omega
      refine ⟨q, r0, by omega, ?_⟩
      rw [en3]
      exact en2
  intro j
  induction j with
  | zero =>
    intro _
    have e0 : t.drop (t.length - 0) = [] := by rw [Nat.sub_zero, List.drop_length]
    refine ⟨?_, fun s hj hs => ?_⟩
    · rw [e0]
      exact ⟨rfl, fun z hz => absurd hz (by simp [stackS])⟩
    · have := next 0 (by rw [e0]; rfl) s hj hs
      exact ⟨this.1, this.2.1, this.2.2.1⟩
  | succ j ih =>
    intro hj
    obtain ⟨⟨e, ok⟩, _⟩ := ih (by omega)
    have lt : t.length - 1 - j < t.length := by omega
    have hs : t[t.length - 1 - j]? = some t[t.length - 1 - j] := List.getElem?_eq_getElem lt
    obtain ⟨q, r0, le, en⟩ := next j e _ (by omega) hs
    have dd : t.drop (t.length - (j + 1)) = t[t.length - 1 - j] :: t.drop (t.length - j) := by
      have e3 : t.length - (j + 1) = t.length - 1 - j := by omega
      rw [e3, List.drop_eq_getElem_cons lt]
      congr 2
      omega
    generalize hsy : t[t.length - 1 - j] = s at *
    have st : stackS M (t.drop (t.length - (j + 1))) = stepS M (stackS M (t.drop (t.length - j))) s := by
      rw [dd]
      rfl
    have inv : lackG M.rs (t.drop (t.length - (j + 1))) ((stackS M (t.drop (t.length - (j + 1)))).length : Int) = some 0 ∧ ∀ z ∈ stackS M (t.drop (t.length - (j + 1))), 0 ≤ z ∧ z < M.n := by
      rw [st]
      constructor
      · have el : ((stepS M (stackS M (t.drop (t.length - j))) s).length : Int) = ((stackS M (t.drop (t.length - j))).length : Int) + 1 - M.rank s := by
          unfold stepS
          rw [List.length_cons, List.length_drop]
          omega
        rw [el]
        exact en
      · intro z hz
        unfold stepS at hz
        rcases List.mem_cons.mp hz with w | w
        · rw [w]
          unfold TM.to
          have kk : ∀ k ∈ (stackS M (t.drop (t.length - j))).take (M.rank s).toNat, 0 ≤ k ∧ k < M.n := fun k hk => ok k (List.mem_of_mem_take hk)
          obtain ⟨p0, p1⟩ := plc_lt nn _ kk
          rw [List.length_take, Nat.min_eq_left le] at p1
          have rl := g.rl
          have lr : s.toNat < M.rules.length := by omega
          have er : M.rules[s.toNat]? = some (M.rule s) := by
            unfold TM.rule
            rw [List.getD_eq_getElem?_getD, List.getElem?_eq_getElem lr]
            rfl
          have sz := g.sz s.toNat _ _ (getD_at q.1 q.2) er
          have pl : (plc M.n ((stackS M (t.drop (t.length - j))).take (M.rank s).toNat)).toNat < (M.rule s).length := by
            rw [sz]
            have : (M.n : Int) ^ (M.rank s).toNat = ((M.outs.length ^ (M.rank s).toNat : Nat) : Int) := by
              unfold TM.n
              rw [Int.natCast_pow]
            rw [this] at p1
            have p1 : plc M.n ((stackS M (t.drop (t.length - j))).take (M.rank s).toNat) < ((M.outs.length ^ (M.rs.getD s.toNat 0).toNat : Nat) : Int) := p1
            omega
          refine g.rb (M.rule s) (List.mem_of_getElem? er) _ ?_
          rw [List.getD_eq_getElem?_getD, List.getElem?_eq_getElem pl]
          exact List.getElem_mem pl
        · exact ok z (List.mem_of_mem_drop w)
    refine ⟨inv, fun s' hj' hs' => ?_⟩
    have := next (j + 1) inv.1 s' hj' hs'
    exact ⟨this.1, this.2.1, this.2.2.1⟩
/-- one state is left -/
theorem stack_one {M : TM} (g : GoodT M) {t : List Int} (h : treeB M.rs t = true) : stackS M t = [M.stateT t] ∧ 0 ≤ M.stateT t ∧ M.stateT t < M.n := by
  obtain ⟨⟨e, ok⟩, _⟩ := stack_at g h t.length (Nat.le_refl _)
  rw [Nat.sub_self, List.drop_zero] at e ok
  have hl : lackG M.rs t 1 = some 0 := by
    unfold treeB at h
    rw [Bool.and_eq_true] at h
    simpa using h.2
  have v1 := lack_val e
  have v2 := lack_val hl
  have l1 : (stackS M t).length = 1 := by omega
  obtain ⟨z, hz⟩ := List.length_eq_one_iff.mp l1
  have : M.stateT t = z := by
    unfold TM.stateT
    rw [hz]
    rfl
  rw [this, hz]
  exact ⟨rfl, ok z (by rw [hz]; exact List.mem_singleton.mpr rfl)⟩
theorem stack_next {M : TM} {t : List Int} {j : Nat} {s : Int} (hj : j < t.length) (hs : t[t.length - 1 - j]? = some s) : stackS M (t.drop (t.length - (j + 1))) = stepS M (stackS M (t.drop (t.length - j))) s := by
  obtain ⟨lt, e2⟩ := List.getElem?_eq_some_iff.mp hs
  have e3 : t.length - (j + 1) = t.length - 1 - j := by omega
  have e4 : t.length - j = t.length - 1 - j + 1 := by omega
  rw [e3, e4, List.drop_eq_getElem_cons lt, e2]
  rfl
/-- the entry for kids is there -/
theorem entry_at {M : TM} (g : GoodT M) {s : Int} (h0 : 0 ≤ s) (h1 : s < (M.rs.length : Int)) {ks : List Int} (hk : ∀ k ∈ ks, 0 ≤ k ∧ k < M.n) (hl : ks.length = (M.rank s).toNat) :
    M.rules[s.toNat]? = some (M.rule s) ∧ 0 ≤ plc M.n ks ∧ (M.rule s)[(plc M.n ks).toNat]? = some (M.to s ks) ∧ 0 ≤ M.to s ks ∧ M.to s ks < M.n := by
  have nn : 0 < M.n := by have := g.n1; show 0 < (M.outs.length : Int); omega
  obtain ⟨p0, p1⟩ := plc_lt nn _ hk
  have rl := g.rl
  have lr : s.toNat < M.rules.length := by omega
  have er : M.rules[s.toNat]? = some (M.rule s) := by
    unfold TM.rule
    rw [List.getD_eq_getElem?_getD, List.getElem?_eq_getElem lr]
    rfl
  have sz := g.sz s.toNat _ _ (getD_at h0 h1) er
  have pl : (plc M.n ks).toNat < (M.rule s).length := by
    rw [sz]
    have : (M.n : Int) ^ ks.length = ((M.outs.length ^ ks.length : Nat) : Int) := by
      unfold TM.n
      rw [Int.natCast_pow]
    rw [this, hl] at p1
    have p1 : plc M.n ks < ((M.outs.length ^ (M.rs.getD s.toNat 0).toNat : Nat) : Int) := p1
    omega
  have ee : (M.rule s)[(plc M.n ks).toNat]? = some (M.to s ks) := by
    unfold TM.to
    rw [List.getD_eq_getElem?_getD, List.getElem?_eq_getElem pl]
    rfl
  have := g.rb (M.rule s) (List.mem_of_getElem? er) _ (List.mem_of_getElem? ee)
  exact ⟨er, p0, ee, this.1, this.2⟩
theorem drop_cons {st : List Int} {k : Nat} (h : k < st.length) : ∃ a, st[k]? = some a ∧ st.drop k = a :: st.drop (k + 1) ∧ st.take (k + 1) = st.take k ++ [a] := by
  refine ⟨st[k], List.getElem?_eq_getElem h, List.drop_eq_getElem_cons h, ?_⟩
  rw [List.take_succ, List.getElem?_eq_getElem h]
  rfl
theorem rev_cons {a : Int} {l : List Int} : (a :: l).reverse.map V.int = l.reverse.map V.int ++ [.int a] := by
  rw [List.reverse_cons, List.map_append]
  rfl
theorem last_snoc {xs : List V} {y : V} : (xs ++ [y])[(xs ++ [y]).length - 1]? = some y := by
  rw [List.length_append]
  show (xs ++ [y])[xs.length]? = some y
  rw [List.getElem?_append_right (Nat.le_refl _), Nat.sub_self]
  rfl
theorem stack_len (M : TM) : ∀ u : List Int, (stackS M u).length ≤ u.length
  | [] => Nat.le_refl _
  | s :: u => by
    have ih := stack_len M u
    show (stepS M (stackS M u) s).length ≤ _
    unfold stepS
    rw [List.length_cons, List.length_drop, List.length_cons]
    omega
/-- len in a comprehension -/
def rLenC (K : PySem.W.Frag) : List V → Hp → VK → Prop := fun xs H Q => ∃ p ys, xs = [V.ref p] ∧ (SqL K H p ys ∨ SqT K H p ys) ∧ Q (V.int ((ys.length : Nat) : Int)) H
theorem call_lenC {X : Cx} : CallR X (Value.builtin "len") (rLenC X.K) := call_len_seq
end Mz

set_option Elab.async false
set_option linter.all false
set_option maxRecDepth 100000
set_option maxHeartbeats 4000000
namespace K63
open PySem PySem.Spec PyProof.Rows L2 Mz
def top (i : Nat) : Stmt := PySem.Challenge.pw_maieutic_k63_least_tree_machines.main.body.getD i (.Pass ⟨0, 0, 0, 0⟩)
abbrev s_first_places : Stmt := top 4
abbrev s_are_below : Stmt := top 6
abbrev s_are_ranks : Stmt := top 13
abbrev s_check_tree_machine : Stmt := top 14
abbrev s_kids_of : Stmt := top 15
abbrev s_entry_of : Stmt := top 16
abbrev s_tree_order : Stmt := top 17
abbrev s_first_trees : Stmt := top 19
abbrev s_trees_up_to : Stmt := top 20
abbrev s_trees_over : Stmt := top 21
abbrev s_least_tree_machine : Stmt := top 22
abbrev s_met_states : Stmt := top 23
abbrev s_kept : Stmt := top 24
abbrev s_classes : Stmt := top 25
abbrev s_afters : Stmt := top 26
abbrev s_law_numbers : Stmt := top 28
abbrev s_law_ranks : Stmt := top 29
abbrev s_law_tree_machine : Stmt := top 30
abbrev s_law_rule : Stmt := top 31
abbrev s_law_reached : Stmt := top 33
abbrev s_law_kids : Stmt := top 34
abbrev s_law_pairs : Stmt := top 35
abbrev s_law_differ : Stmt := top 36
abbrev s_law_parted : Stmt := top 37
abbrev s_law_doubled : Stmt := top 38
abbrev s_law : Stmt := top 39
theorem sc_first_places : FnScope ["marks", "first", "place", "mark"] ["marks"] (defScope s_first_places) := ⟨rfl, rfl, rfl, by decide +kernel, rfl, by decide +kernel, by decide +kernel⟩
theorem sc_are_below : FnScope ["numbers", "limit", "number"] ["numbers", "limit"] (defScope s_are_below) := ⟨rfl, rfl, rfl, by decide +kernel, rfl, by decide +kernel, by decide +kernel⟩
theorem sc_are_ranks : FnScope ["ranks"] ["ranks"] (defScope s_are_ranks) := ⟨rfl, rfl, rfl, by decide +kernel, rfl, by decide +kernel, by decide +kernel⟩
theorem sc_check_tree_machine : FnScope ["machine", "ranks", "outs", "rules", "outputs", "count", "rank", "rule"] ["machine"] (defScope s_check_tree_machine) := ⟨rfl, rfl, rfl, by decide +kernel, rfl, by decide +kernel, by decide +kernel⟩
theorem sc_kids_of : FnScope ["rank", "states", "kids", "_", "few", "state"] ["rank", "states"] (defScope s_kids_of) := ⟨rfl, rfl, rfl, by decide +kernel, rfl, by decide +kernel, by decide +kernel⟩
theorem sc_entry_of : FnScope ["kids", "count", "place", "state"] ["kids", "count"] (defScope s_entry_of) := ⟨rfl, rfl, rfl, by decide +kernel, rfl, by decide +kernel, by decide +kernel⟩
theorem sc_tree_order : FnScope ["tree"] ["tree"] (defScope s_tree_order) := ⟨rfl, rfl, rfl, by decide +kernel, rfl, by decide +kernel, by decide +kernel⟩
theorem sc_first_trees : FnScope ["machine"] ["machine"] (defScope s_first_trees) := ⟨rfl, rfl, rfl, by decide +kernel, rfl, by decide +kernel, by decide +kernel⟩
theorem sc_trees_up_to : FnScope ["machine", "most", "ranks", "_", "rules", "outputs", "firsts", "symbol", "rank", "state", "after", "tree", "other", "offers"] ["machine", "most"] (defScope s_trees_up_to) := ⟨rfl, rfl, rfl, by decide +kernel, rfl, by decide +kernel, by decide +kernel⟩
theorem sc_trees_over : FnScope ["machine", "firsts", "state", "ranks", "_", "rules", "outputs", "grown", "symbol", "rank", "kids", "after", "tree", "kid"] ["machine", "firsts", "state"] (defScope s_trees_over) := ⟨rfl, rfl, rfl, by decide +kernel, rfl, by decide +kernel, by decide +kernel⟩
theorem sc_least_tree_machine : FnScope ["machine", "met", "numbers", "whole", "same", "kept", "small", "order", "firsts", "number", "state", "first"] ["machine"] (defScope s_least_tree_machine) := ⟨rfl, rfl, rfl, by decide +kernel, rfl, by decide +kernel, by decide +kernel⟩
theorem sc_met_states : FnScope ["machine", "ranks", "_", "rules", "outputs", "met", "grown", "found", "rank", "rule", "kids", "state"] ["machine"] (defScope s_met_states) := ⟨rfl, rfl, rfl, by decide +kernel, rfl, by decide +kernel, by decide +kernel⟩
theorem sc_kept : FnScope ["machine", "states", "numbers", "ranks", "outs", "rules", "outputs", "kept", "rank", "rule", "state", "kids"] ["machine", "states", "numbers"] (defScope s_kept) := ⟨rfl, rfl, rfl, by decide +kernel, rfl, by decide +kernel, by decide +kernel⟩
theorem sc_classes : FnScope ["machine", "same", "marks", "finer", "state"] ["machine"] (defScope s_classes) := ⟨rfl, rfl, rfl, by decide +kernel, rfl, by decide +kernel, by decide +kernel⟩
theorem sc_afters : FnScope ["machine", "same", "state", "ranks", "_", "rules", "outputs", "count", "afters", "rank", "rule", "other"] ["machine", "same", "state"] (defScope s_afters) := ⟨rfl, rfl, rfl, by decide +kernel, rfl, by decide +kernel, by decide +kernel⟩
theorem sc_law_numbers : FnScope ["script", "many", "numbers", "k", "cell", "j", "mixed", "base", "last"] ["script", "many"] (defScope s_law_numbers) := ⟨rfl, rfl, rfl, by decide +kernel, rfl, by decide +kernel, by decide +kernel⟩
theorem sc_law_ranks : FnScope ["number", "ranks", "k"] ["number"] (defScope s_law_ranks) := ⟨rfl, rfl, rfl, by decide +kernel, rfl, by decide +kernel, by decide +kernel⟩
theorem sc_law_tree_machine : FnScope ["numbers", "ranks", "outs", "states", "rules", "symbol", "size", "outputs", "state", "k"] ["numbers", "ranks", "outs", "states"] (defScope s_law_tree_machine) := ⟨rfl, rfl, rfl, by decide +kernel, rfl, by decide +kernel, by decide +kernel⟩
theorem sc_law_rule : FnScope ["machine", "symbol", "kids", "at", "kid"] ["machine", "symbol", "kids"] (defScope s_law_rule) := ⟨rfl, rfl, rfl, by decide +kernel, rfl, by decide +kernel, by decide +kernel⟩
theorem sc_law_reached : FnScope ["machine", "found", "turn", "symbol", "kids", "state"] ["machine"] (defScope s_law_reached) := ⟨rfl, rfl, rfl, by decide +kernel, rfl, by decide +kernel, by decide +kernel⟩
theorem sc_law_kids : FnScope ["rank", "states", "state", "rows", "other"] ["rank", "states"] (defScope s_law_kids) := ⟨rfl, rfl, rfl, by decide +kernel, rfl, by decide +kernel, by decide +kernel⟩
theorem sc_law_pairs : FnScope ["first", "second", "found", "turn", "before", "symbol", "kids", "left", "pair", "kid"] ["first", "second"] (defScope s_law_pairs) := ⟨rfl, rfl, rfl, by decide +kernel, rfl, by decide +kernel, by decide +kernel⟩
theorem sc_law_differ : FnScope ["first", "second", "pair"] ["first", "second"] (defScope s_law_differ) := ⟨rfl, rfl, rfl, by decide +kernel, rfl, by decide +kernel, by decide +kernel⟩
theorem sc_law_parted : FnScope ["machine", "state", "states", "kinds", "turn", "rows", "after", "row", "symbol", "other"] ["machine"] (defScope s_law_parted) := ⟨rfl, rfl, rfl, by decide +kernel, rfl, by decide +kernel, by decide +kernel⟩
theorem sc_law_doubled : FnScope ["machine", "numbers", "count", "rules", "symbol", "row", "kids", "target", "state", "kid"] ["machine", "numbers"] (defScope s_law_doubled) := ⟨rfl, rfl, rfl, by decide +kernel, rfl, by decide +kernel, by decide +kernel⟩
theorem sc_law : FnScope ["script", "numbers", "ranks", "machine", "small", "trees", "k", "one", "two", "state"] ["script"] (defScope s_law) := ⟨rfl, rfl, rfl, by decide +kernel, rfl, by decide +kernel, by decide +kernel⟩
/-- where the top has put what it makes -/
structure Ads where
  a_MaieuticError : Addr
  a_NotAllowed : Addr
  a_first_places : Addr
  d_first_places : FuncData
  a_are_below : Addr
  d_are_below : FuncData
  a_are_ranks : Addr
  d_are_ranks : FuncData
  a_check_tree_machine : Addr
  d_check_tree_machine : FuncData
  a_kids_of : Addr
  d_kids_of : FuncData
  a_entry_of : Addr
  d_entry_of : FuncData
  a_tree_order : Addr
  d_tree_order : FuncData
  a_first_trees : Addr
  d_first_trees : FuncData
  a_trees_up_to : Addr
  d_trees_up_to : FuncData
  a_trees_over : Addr
  d_trees_over : FuncData
  a_least_tree_machine : Addr
  d_least_tree_machine : FuncData
  a_met_states : Addr
  d_met_states : FuncData
  a_kept : Addr
  d_kept : FuncData
  a_classes : Addr
  d_classes : FuncData
  a_afters : Addr
  d_afters : FuncData
  a_law_numbers : Addr
  d_law_numbers : FuncData
  a_law_ranks : Addr
  d_law_ranks : FuncData
  a_law_tree_machine : Addr
  d_law_tree_machine : FuncData
  a_law_rule : Addr
  d_law_rule : FuncData
  a_law_reached : Addr
  d_law_reached : FuncData
  a_law_kids : Addr
  d_law_kids : FuncData
  a_law_pairs : Addr
  d_law_pairs : FuncData
  a_law_differ : Addr
  d_law_differ : FuncData
  a_law_parted : Addr
  d_law_parted : FuncData
  a_law_doubled : Addr
  d_law_doubled : FuncData
  a_law : Addr
  d_law : FuncData
/-- what the proofs ask of the written part -/
structure Txt (K : PySem.W.Frag) (mg : Str → Option Value) (A : Ads) : Prop where
  g_MaieuticError : mg "MaieuticError" = some (.ref A.a_MaieuticError)
  x_MaieuticError : PySem.W.excIn K A.a_MaieuticError [.type "ValueError", .type "Exception", .type "BaseException", .type "object"] "ValueError.__new__" = true
  k_MaieuticError : PySem.W.keepIn K (.ref A.a_MaieuticError) = true
  sb_MaieuticError : PySem.W.subIn K (.ref A.a_MaieuticError) (.type "BaseException") = some true
  ty_MaieuticError : PySem.W.typeIn K (.ref A.a_MaieuticError) = some (.type "type")
  E_MaieuticError : ExcC K A.a_MaieuticError
  g_NotAllowed : mg "NotAllowed" = some (.ref A.a_NotAllowed)
  x_NotAllowed : PySem.W.excIn K A.a_NotAllowed [.type "ValueError", .type "Exception", .type "BaseException", .type "object"] "ValueError.__new__" = true
  k_NotAllowed : PySem.W.keepIn K (.ref A.a_NotAllowed) = true
  sb_NotAllowed : PySem.W.subIn K (.ref A.a_NotAllowed) (.type "BaseException") = some true
  ty_NotAllowed : PySem.W.typeIn K (.ref A.a_NotAllowed) = some (.type "type")
  E_NotAllowed : ExcC K A.a_NotAllowed
  su_MaieuticError_MaieuticError : PySem.W.subIn K (.ref A.a_MaieuticError) (.ref A.a_MaieuticError) = some true
  su_MaieuticError_NotAllowed : PySem.W.subIn K (.ref A.a_MaieuticError) (.ref A.a_NotAllowed) = some false
  su_NotAllowed_MaieuticError : PySem.W.subIn K (.ref A.a_NotAllowed) (.ref A.a_MaieuticError) = some true
  su_NotAllowed_NotAllowed : PySem.W.subIn K (.ref A.a_NotAllowed) (.ref A.a_NotAllowed) = some true
  F_first_places : Fun K "first_places" "first_places" s_first_places A.a_first_places A.d_first_places
  b_first_places : Binds K A.d_first_places ["marks"] []
  g_first_places : mg "first_places" = some (.ref A.a_first_places)
  F_are_below : Fun K "are_below" "are_below" s_are_below A.a_are_below A.d_are_below
  b_are_below : Binds K A.d_are_below ["numbers", "limit"] []
  g_are_below : mg "are_below" = some (.ref A.a_are_below)
  F_are_ranks : Fun K "are_ranks" "are_ranks" s_are_ranks A.a_are_ranks A.d_are_ranks
  b_are_ranks : Binds K A.d_are_ranks ["ranks"] []
  g_are_ranks : mg "are_ranks" = some (.ref A.a_are_ranks)
  F_check_tree_machine : Fun K "check_tree_machine" "check_tree_machine" s_check_tree_machine A.a_check_tree_machine A.d_check_tree_machine
  b_check_tree_machine : Binds K A.d_check_tree_machine ["machine"] []
  g_check_tree_machine : mg "check_tree_machine" = some (.ref A.a_check_tree_machine)
  F_kids_of : Fun K "kids_of" "kids_of" s_kids_of A.a_kids_of A.d_kids_of
  b_kids_of : Binds K A.d_kids_of ["rank", "states"] []
  g_kids_of : mg "kids_of" = some (.ref A.a_kids_of)
  F_entry_of : Fun K "entry_of" "entry_of" s_entry_of A.a_entry_of A.d_entry_of
  b_entry_of : Binds K A.d_entry_of ["kids", "count"] []
  g_entry_of : mg "entry_of" = some (.ref A.a_entry_of)
  F_tree_order : Fun K "tree_order" "tree_order" s_tree_order A.a_tree_order A.d_tree_order
  b_tree_order : Binds K A.d_tree_order ["tree"] []
  g_tree_order : mg "tree_order" = some (.ref A.a_tree_order)
  F_first_trees : Fun K "first_trees" "first_trees" s_first_trees A.a_first_trees A.d_first_trees
  b_first_trees : Binds K A.d_first_trees ["machine"] []
  g_first_trees : mg "first_trees" = some (.ref A.a_first_trees)
  F_trees_up_to : Fun K "_trees_up_to" "_trees_up_to" s_trees_up_to A.a_trees_up_to A.d_trees_up_to
  b_trees_up_to : Binds K A.d_trees_up_to ["machine", "most"] []
  g_trees_up_to : mg "_trees_up_to" = some (.ref A.a_trees_up_to)
  F_trees_over : Fun K "_trees_over" "_trees_over" s_trees_over A.a_trees_over A.d_trees_over
  b_trees_over : Binds K A.d_trees_over ["machine", "firsts", "state"] []
  g_trees_over : mg "_trees_over" = some (.ref A.a_trees_over)
  F_least_tree_machine : Fun K "least_tree_machine" "least_tree_machine" s_least_tree_machine A.a_least_tree_machine A.d_least_tree_machine
  b_least_tree_machine : Binds K A.d_least_tree_machine ["machine"] []
  g_least_tree_machine : mg "least_tree_machine" = some (.ref A.a_least_tree_machine)
  F_met_states : Fun K "_met_states" "_met_states" s_met_states A.a_met_states A.d_met_states
  b_met_states : Binds K A.d_met_states ["machine"] []
  g_met_states : mg "_met_states" = some (.ref A.a_met_states)
  F_kept : Fun K "_kept" "_kept" s_kept A.a_kept A.d_kept
  b_kept : Binds K A.d_kept ["machine", "states", "numbers"] []
  g_kept : mg "_kept" = some (.ref A.a_kept)
  F_classes : Fun K "_classes" "_classes" s_classes A.a_classes A.d_classes
  b_classes : Binds K A.d_classes ["machine"] []
  g_classes : mg "_classes" = some (.ref A.a_classes)
  F_afters : Fun K "_afters" "_afters" s_afters A.a_afters A.d_afters
  b_afters : Binds K A.d_afters ["machine", "same", "state"] []
  g_afters : mg "_afters" = some (.ref A.a_afters)
  F_law_numbers : Fun K "_law_numbers" "_law_numbers" s_law_numbers A.a_law_numbers A.d_law_numbers
  b_law_numbers : Binds K A.d_law_numbers ["script", "many"] []
  g_law_numbers : mg "_law_numbers" = some (.ref A.a_law_numbers)
  F_law_ranks : Fun K "_law_ranks" "_law_ranks" s_law_ranks A.a_law_ranks A.d_law_ranks
  b_law_ranks : Binds K A.d_law_ranks ["number"] []
  g_law_ranks : mg "_law_ranks" = some (.ref A.a_law_ranks)
  F_law_tree_machine : Fun K "_law_tree_machine" "_law_tree_machine" s_law_tree_machine A.a_law_tree_machine A.d_law_tree_machine
  b_law_tree_machine : Binds K A.d_law_tree_machine ["numbers", "ranks", "outs", "states"] []
  g_law_tree_machine : mg "_law_tree_machine" = some (.ref A.a_law_tree_machine)
  F_law_rule : Fun K "_law_rule" "_law_rule" s_law_rule A.a_law_rule A.d_law_rule
  b_law_rule : Binds K A.d_law_rule ["machine", "symbol", "kids"] []
  g_law_rule : mg "_law_rule" = some (.ref A.a_law_rule)
  F_law_reached : Fun K "_law_reached" "_law_reached" s_law_reached A.a_law_reached A.d_law_reached
  b_law_reached : Binds K A.d_law_reached ["machine"] []
  g_law_reached : mg "_law_reached" = some (.ref A.a_law_reached)
  F_law_kids : Fun K "_law_kids" "_law_kids" s_law_kids A.a_law_kids A.d_law_kids
  b_law_kids : Binds K A.d_law_kids ["rank", "states"] []
  g_law_kids : mg "_law_kids" = some (.ref A.a_law_kids)
  F_law_pairs : Fun K "_law_pairs" "_law_pairs" s_law_pairs A.a_law_pairs A.d_law_pairs
  b_law_pairs : Binds K A.d_law_pairs ["first", "second"] []
  g_law_pairs : mg "_law_pairs" = some (.ref A.a_law_pairs)
  F_law_differ : Fun K "_law_differ" "_law_differ" s_law_differ A.a_law_differ A.d_law_differ
  b_law_differ : Binds K A.d_law_differ ["first", "second"] []
  g_law_differ : mg "_law_differ" = some (.ref A.a_law_differ)
  F_law_parted : Fun K "_law_parted" "_law_parted" s_law_parted A.a_law_parted A.d_law_parted
  b_law_parted : Binds K A.d_law_parted ["machine"] []
  g_law_parted : mg "_law_parted" = some (.ref A.a_law_parted)
  F_law_doubled : Fun K "_law_doubled" "_law_doubled" s_law_doubled A.a_law_doubled A.d_law_doubled
  b_law_doubled : Binds K A.d_law_doubled ["machine", "numbers"] []
  g_law_doubled : mg "_law_doubled" = some (.ref A.a_law_doubled)
  F_law : Fun K "law" "law" s_law A.a_law A.d_law
  b_law : Binds K A.d_law ["script"] []
  g_law : mg "law" = some (.ref A.a_law)
  c_MAX_SYMBOLS : ∃ u, mg "MAX_SYMBOLS" = some u ∧ RelV (.int 5) u
  c_MAX_RANK : ∃ u, mg "MAX_RANK" = some u ∧ RelV (.int 2) u
  c_MAX_TREE_STATES : ∃ u, mg "MAX_TREE_STATES" = some u ∧ RelV (.int 6) u
  c_MAX_TREE_OUTS : ∃ u, mg "MAX_TREE_OUTS" = some u ∧ RelV (.int 4) u
  c_MAX_NODES : ∃ u, mg "MAX_NODES" = some u ∧ RelV (.int 400) u
  n_enumerate : mg "enumerate" = none
  n_all : mg "all" = none
  n_len : mg "len" = none
  n_zip : mg "zip" = none
  n_range : mg "range" = none
  n_min : mg "min" = none
  n_list : mg "list" = none
  n_sorted : mg "sorted" = none
  n_tuple : mg "tuple" = none
  n_abs : mg "abs" = none
  n_int : mg "int" = none
  n_max : mg "max" = none
  n_reversed : mg "reversed" = none
  n_any : mg "any" = none
  n_isinstance : mg "isinstance" = none
/-- what _law_numbers gives -/
structure Nums (ms : List Int) (many : Int) : Prop where
  len : (ms.length : Int) = many
  ok : ∀ z ∈ ms, 0 ≤ z ∧ z < 4294967296
def spNumbers (K : PySem.W.Frag) : Sp := fun vs H Q _ => ∃ (a : Addr) (ns : List Int) (many : Int), vs = [.ref a, .int many] ∧ SqL K H a (ns.map V.int) ∧ ns.length ≤ 63 ∧ 0 ≤ many ∧ many ≤ 4000 ∧
  ∀ (ms : List Int) (H' : Hp) (p : Addr), Nums ms many → Same H H' → H p = none → H' p = some (.lst (ms.map V.int)) → Q (.ref p) H'
section
variable {P : Program} {w : World} {K : PySem.W.Frag} {mg : Str → Option Value} {base : Heap} {A : Ads}
theorem ok_numbers (T : Txt K mg A) : FnOk P w K mg base CX0 1 A.a_law_numbers A.d_law_numbers ["script", "many"] (spNumbers K) := by
  refine T.F_law_numbers.ok sc_law_numbers (fun vs H Q E h => ?_) (fun cdv Ar outer s H vs Q E hr h => ?_)
  · obtain ⟨_, _, _, rfl, _⟩ := h
    rfl
  · obtain ⟨a, ns, many, rfl, hS, l63, m0, m4, fin⟩ := h
    refine ⟨_, (pss_cons (ps_set (i := 2) sc_law_numbers.nd rfl (Or.inl rfl) (pe_lst pa_nil))
      (pss_cons (ps_for PassesOwn.never rfl (pi_range1 (by rfl) T.n_range (pa_cons (pe_callB call_len_seq (by rfl) T.n_len PySem.boot_len (pa_cons (pv 0) pa_nil)) pa_nil)) (pg_name (i := 3) sc_law_numbers.nd rfl (Or.inl rfl))
        (pss_cons (ps_set (i := 4) sc_law_numbers.nd rfl (Or.inl rfl) (pe_callB call_abs (by rfl) T.n_abs (by decide +kernel) (pa_cons (pe_callTy call_int1 (by rfl) T.n_int (by decide +kernel) (pa_cons (pe_ix (r := rIx K) ix_seq (pv 0) (pv 3) (fun _ _ => rfl)) pa_nil)) pa_nil)))
          (pss_one (ps_if (pt_cmpR op_ge (pv 4) (pe_op op_pow pe_int pe_int) (nomark _)) (pss_one (ps_for PassesOwn.never rfl (pi_range1 (by rfl) T.n_range (pa_cons pe_int pa_nil)) (pg_name (i := 5) sc_law_numbers.nd rfl (Or.inl rfl))
                (pss_one (ps_if (PW.pt (pw_and (pt_cmpR op_gt (pv 4) pe_int (nomark _)) (pw_and1 (pt_cmpR op_lt (pe_callB call_len_seq (by rfl) T.n_len PySem.boot_len (pa_cons (pv 2) pa_nil)) (pv 1) (nomark _))))) (pss_cons (ps_expr (pe_bm PySem.F.plainAttrs_list PySem.F.slot_list_append PySem.F.type_list_append mt_append (pv 2) (pa_cons (pe_op op_mod (pv 4) pe_int) pa_nil)))
                      (pss_one (ps_set (i := 4) sc_law_numbers.nd rfl (Or.inl rfl) (pe_op op_fdiv (pv 4) pe_int)))) pss_nil)))) (pss_one (ps_if (pt_cmpR op_lt (pe_callB call_len_seq (by rfl) T.n_len PySem.boot_len (pa_cons (pv 2) pa_nil)) (pv 1) (nomark _)) (pss_cons (ps_set (i := 6) sc_law_numbers.nd rfl (Or.inl rfl) (pe_op op_mod (pe_callTy call_int1 (by rfl) T.n_int (by decide +kernel) (pa_cons (pe_op op_add (pe_op op_add (pe_op op_mul (pv 4) pe_int) (pe_op op_mul (pv 3) pe_int)) pe_int) pa_nil)) pe_int))
                  (pss_one (ps_expr (pe_bm PySem.F.plainAttrs_list PySem.F.slot_list_append PySem.F.type_list_append mt_append (pv 2) (pa_cons (pe_op op_fdiv (pe_op op_mod (pe_callTy call_int1 (by rfl) T.n_int (by decide +kernel) (pa_cons (pe_op op_add (pe_op op_add (pe_op op_mul (pv 6) pe_int) (pe_op op_mul pe_int (pv 3))) pe_int) pa_nil)) pe_int) pe_int) pa_nil))))) pss_nil))))))
      (pss_cons (ps_set (i := 7) sc_law_numbers.nd rfl (Or.inl rfl) (pe_callB call_len_seq (by rfl) T.n_len PySem.boot_len (pa_cons (pv 2) pa_nil)))
      (pss_cons (ps_set (i := 8) sc_law_numbers.nd rfl (Or.inl rfl) (pe_op op_add pe_int (pe_callB call_len_seq (by rfl) T.n_len PySem.boot_len (pa_cons (pv 0) pa_nil))))
      (pss_cons (ps_for PassesOwn.never rfl (pi_range1 (by rfl) T.n_range (pa_cons (pe_callB (call_max2 rfl) (by rfl) T.n_max (by decide +kernel) (pa_cons pe_int (pa_cons (pe_op op_sub (pv 1) (pv 7)) pa_nil))) pa_nil)) (pg_name (i := 3) sc_law_numbers.nd rfl (Or.inl rfl))
        (pss_cons (ps_if (pt_cmpR op_gt (pv 7) pe_int (nomark _)) (pss_one (ps_set (i := 8) sc_law_numbers.nd rfl (Or.inl rfl) (pe_op op_add (pv 8) (pe_ix (r := rIx K) ix_seq (pv 2) (pe_op op_mod (pv 3) (pv 7)) (fun _ _ => rfl))))) pss_nil)
          (pss_cons (ps_set (i := 8) sc_law_numbers.nd rfl (Or.inl rfl) (pe_op op_mod (pe_callTy call_int1 (by rfl) T.n_int (by decide +kernel) (pa_cons (pe_op op_add (pe_op op_mul (pv 8) pe_int) (pv 3)) pa_nil)) pe_int))
          (pss_one (ps_expr (pe_bm PySem.F.plainAttrs_list PySem.F.slot_list_append PySem.F.type_list_append mt_append (pv 2) (pa_cons (pe_op op_fdiv (pv 8) pe_int) pa_nil)))))))
      (pss_one (ps_ret (pe_slice sl_list (pv 2) po_none (po_some (pv 1)))))))))), ?_⟩
    refine ⟨Nat.zero_le _, fun l hl => ?_⟩
    have s0 : Same H (upd H l (.lst [])) := same_upd (Same.refl H) hl
    have hls : (ns.map V.int).length = ns.length := List.length_map ..
    -- one more number
    have push : ∀ (H1 : Hp) (ms : List Int) (z : Int), Same H H1 → (∀ z ∈ ms, 0 ≤ z ∧ z < 4294967296) → 0 ≤ z ∧ z < 4294967296 →
        Same H (upd H1 l (.lst (ms.map V.int ++ [.int z]))) ∧ (upd H1 l (.lst (ms.map V.int ++ [.int z]))) l = some (.lst ((ms ++ [z]).map V.int)) ∧ (∀ x ∈ ms ++ [z], 0 ≤ x ∧ x < 4294967296) := by
      intro H1 ms z q1 q4 q5
      refine ⟨same_set q1 hl, ?_, ?_⟩
      · rw [upd_same, List.map_append]
        rfl
      · intro x hx
        rcases List.mem_append.mp hx with e | e
        · exact q4 x e
        · rw [List.mem_singleton.mp e]
          exact q5
    refine ⟨_, rfl, a, _, rfl, .inl (s0.seq hS), ?_⟩
    rw [hls]
    refine ⟨ns.length, rfl, by omega, by omega, for_range (fun i σ H' => ∃ (ms : List Int) (v3 v4 v5 v6 v7 v8 : Option V), σ = [some (.ref a), some (.int many), some (.ref l), v3, v4, v5, v6, v7, v8] ∧ Same H H' ∧ H' l = some (.lst (ms.map V.int)) ∧ (ms.length : Int) ≤ many ∧ (∀ z ∈ ms, 0 ≤ z ∧ z < 4294967296))
      ⟨[], none, none, none, none, none, none, rfl, s0, upd_same, m0, fun z hz => absurd hz (by simp)⟩ ?_ ?_⟩
    · rintro i σ H' hi ⟨ms, v3, v4, v5, v6, v7, v8, rfl, s1, e1, few, ok⟩
      have hi : i < ns.length := hi
      have i0 : ((0 : Int) + (i : Int)).toNat = i := by omega
      refine ⟨_, rfl, _, rfl, .inl ⟨a, _, _, _, rfl, rfl, s1.seq hS, atI_get? (z := ns[i]) (by omega) (by rw [i0]; exact List.getElem?_eq_getElem hi), ?_⟩⟩
      refine .inl ⟨_, rfl, _, rfl, ?_⟩
      have c0 : 0 ≤ (if ns[i] < 0 then -ns[i] else ns[i]) := by split <;> omega
      generalize (if ns[i] < 0 then -ns[i] else ns[i]) = c at c0
      refine ⟨_, rfl, _, _, rfl, rfl, ⟨by decide, by decide, by decide⟩, _, _, rfl, rfl, _, rfl, ?_⟩
      refine ite2 (fun big => ?_) (fun big => ?_)
      · refine ⟨60, rfl, by decide, by decide, for_range (n := 60) (fun j σ H' => ∃ (ms : List Int) (r : Int) (v5 v6 v7 v8 : Option V), σ = [some (.ref a), some (.int many), some (.ref l), some (.int ((0 : Int) + (i : Int))), some (.int r), v5, v6, v7, v8] ∧ 0 ≤ r ∧ Same H H' ∧ H' l = some (.lst (ms.map V.int)) ∧ (ms.length : Int) ≤ many ∧ (∀ z ∈ ms, 0 ≤ z ∧ z < 4294967296))
          ⟨ms, c, v5, v6, v7, v8, rfl, c0, s1, e1, few, ok⟩ ?_ ?_⟩
        · clear s1 e1 few ok ms big c0 c
          rintro j σ H1 hj ⟨ms, r, v5, v6, v7, v8, rfl, r0, s1, e1, few, ok⟩
          have hlm : (ms.map V.int).length = ms.length := List.length_map ..
          refine ⟨_, rfl, _, _, rfl, rfl, _, rfl, ?_⟩
          refine ite2 (fun c1 => ?_) (fun c1 => ?_)
          · refine ⟨_, rfl, l, _, rfl, .inl (SqL.of e1), _, rfl, _, _, rfl, rfl, _, rfl, ?_⟩
            rw [hlm]
            refine ite2 (fun c2 => ?_) (fun c2 => ?_)
            · have c2 : (ms.length : Int) < many := by simpa using c2
              refine ⟨_, rfl, .inl ⟨rfl, _, SqL.of e1⟩, _, rfl, _, _, rfl, rfl, (by show (0 : Int) < 10007; decide), l, _, _, rfl, rfl, e1, ?_, ?_⟩
              · rw [hlm]
                exact Nat.lt_of_le_of_lt (by omega : ms.length ≤ 4000) (by decide)
              · obtain ⟨p1, p2, p4⟩ := push H1 ms (r % 10007) s1 ok (by omega)
                refine ⟨_, rfl, _, _, rfl, rfl, ⟨by decide, by decide⟩, ?_⟩
                exact ⟨ms ++ [r % 10007], _, _, _, _, _, rfl, Int.ediv_nonneg r0 (by decide), p1, p2, by rw [List.length_append, List.length_singleton]; omega, p4⟩
            · exact ⟨ms, _, _, _, _, _, rfl, r0, s1, e1, few, ok⟩
          · exact ⟨ms, _, _, _, _, _, rfl, r0, s1, e1, few, ok⟩
        · rintro σ H1 ⟨ms, r, v5, v6, v7, v8, rfl, r0, s1, e1, few, ok⟩
          exact ⟨ms, _, _, _, _, _, _, rfl, s1, e1, few, ok⟩
      · have hlm : (ms.map V.int).length = ms.length := List.length_map ..
        refine ⟨_, rfl, l, _, rfl, .inl (SqL.of e1), _, rfl, _, _, rfl, rfl, _, rfl, ?_⟩
        rw [hlm]
        refine ite2 (fun c2 => ?_) (fun c2 => ?_)
        · have c2 : (ms.length : Int) < many := by simpa using c2
          refine ⟨_, rfl, _, _, rfl, rfl, .inr ⟨by decide, by decide⟩, _, rfl, _, _, rfl, rfl, .inr ⟨by decide, by decide⟩, _, _, rfl, rfl, _, _, rfl, rfl, .inl ⟨_, rfl, _, _, rfl, rfl, (by show (0 : Int) < 2147483647; decide), ?_⟩⟩
          refine ⟨_, rfl, .inl ⟨rfl, _, SqL.of e1⟩, _, rfl, _, _, rfl, rfl, .inr ⟨by decide, by decide⟩, _, rfl, _, _, rfl, rfl, .inl ⟨by decide, by decide⟩, _, _, rfl, rfl, _, _, rfl, rfl, .inl ⟨_, rfl, _, _, rfl, rfl, (by show (0 : Int) < 2147483647; decide), _, _, rfl, rfl, ⟨by decide, by decide⟩, l, _, _, rfl, rfl, e1, ?_, ?_⟩⟩
          · rw [hlm]
            exact Nat.lt_of_le_of_lt (by omega : ms.length ≤ 4000) (by decide)
          · refine (fun (pp : _ ∧ _ ∧ _) => ⟨ms ++ [_], _, _, _, _, _, _, rfl, pp.1, pp.2.1, (by rw [List.length_append, List.length_singleton]; omega), pp.2.2⟩) (push H' ms _ s1 ok (by omega))
        · exact ⟨ms, _, _, _, _, _, _, rfl, s1, e1, few, ok⟩
    · rintro σ H' ⟨ms, v3, v4, v5, v6, v7, v8, rfl, s1, e1, few, ok⟩
      have hlm : (ms.map V.int).length = ms.length := List.length_map ..
      refine ⟨_, rfl, l, _, rfl, .inl (SqL.of e1), ?_⟩
      rw [hlm]
      refine ⟨_, rfl, a, _, rfl, .inl (s1.seq hS), _, _, rfl, rfl, ?_⟩
      rw [hls]
      have mx : ∀ (d : Int), (if d > 0 then d else 0) = (d.toNat : Int) := fun d => by split <;> omega
      refine ⟨_, rfl, _, rfl, _, _, rfl, rfl, _, _, rfl, ?_⟩
      have lb : ms.length ≤ 4000 := by omega
      refine ⟨((many - (ms.length : Int)).toNat : Int), congrArg (fun z => [V.int z]) (mx _), by omega, by omega, for_range (fun i σ H' => ∃ (ms' : List Int) (la : Int) (v3 v4 v5 v6 : Option V), σ = [some (.ref a), some (.int many), some (.ref l), v3, v4, v5, v6, some (.int (ms.length : Int)), some (.int la)] ∧ Same H H' ∧ H' l = some (.lst (ms'.map V.int)) ∧ ms'.length = ms.length + i ∧ (∀ z ∈ ms', 0 ≤ z ∧ z < 4294967296))
        ⟨ms, _, _, _, _, _, rfl, s1, e1, rfl, ok⟩ ?_ ?_⟩
      · rintro i σ H1 hi ⟨ms', la, v3, v4, v5, v6, rfl, s1, e1, ln, ok⟩
        have hlm' : (ms'.map V.int).length = ms'.length := List.length_map ..
        have rest : ∀ la v4 v5 v6, _ := fun (la : Int) (v4 v5 v6 : Option V) => (fun (pp : _ ∧ _ ∧ _) => (⟨ms' ++ [_], _, _, _, _, _, rfl, pp.1, pp.2.1, (by rw [List.length_append, List.length_singleton]; omega), pp.2.2⟩ : ∃ (ms'' : List Int) (la' : Int) (w3 w4 w5 w6 : Option V), [some (.ref a), some (.int many), some (.ref l), some (.int ((0 : Int) + (i : Int))), v4, v5, v6, some (.int (ms.length : Int)), some (.int ((la * 48271 + ((0 : Int) + (i : Int))) % 2147483647))] = [some (.ref a), some (.int many), some (.ref l), w3, w4, w5, w6, some (.int (ms.length : Int)), some (.int la')] ∧ Same H (upd H1 l (.lst (ms'.map V.int ++ [.int ((la * 48271 + ((0 : Int) + (i : Int))) % 2147483647 / 7)]))) ∧ (upd H1 l (.lst (ms'.map V.int ++ [.int ((la * 48271 + ((0 : Int) + (i : Int))) % 2147483647 / 7)]))) l = some (.lst (ms''.map V.int)) ∧ ms''.length = ms.length + (i + 1) ∧ (∀ z ∈ ms'', 0 ≤ z ∧ z < 4294967296))) (push H1 ms' ((la * 48271 + ((0 : Int) + (i : Int))) % 2147483647 / 7) s1 ok (by omega))
        refine ⟨_, rfl, _, _, rfl, rfl, _, rfl, ?_⟩
        have last : ∀ la v4 v5 v6, (fun σ H' => ∃ (ms' : List Int) (la : Int) (v3 v4 v5 v6 : Option V), σ = [some (.ref a), some (.int many), some (.ref l), v3, v4, v5, v6, some (.int (ms.length : Int)), some (.int la)] ∧ Same H H' ∧ H' l = some (.lst (ms'.map V.int)) ∧ ms'.length = ms.length + (i + 1) ∧ (∀ z ∈ ms', 0 ≤ z ∧ z < 4294967296)) [some (.ref a), some (.int many), some (.ref l), some (.int ((0 : Int) + (i : Int))), v4, v5, v6, some (.int (ms.length : Int)), some (.int ((la * 48271 + ((0 : Int) + (i : Int))) % 2147483647))] (upd H1 l (.lst (ms'.map V.int ++ [.int ((la * 48271 + ((0 : Int) + (i : Int))) % 2147483647 / 7)]))) := rest
        refine ite2 (fun c1 => ?_) (fun c1 => ?_)
        · have c1 : (0 : Int) < (ms.length : Int) := by simpa using c1
          have q0 := Int.emod_nonneg ((0 : Int) + (i : Int)) (show (ms.length : Int) ≠ 0 by omega)
          have q1 := Int.emod_lt_of_pos ((0 : Int) + (i : Int)) c1
          have lt : (((0 : Int) + (i : Int)) % (ms.length : Int)).toNat < ms'.length := by omega
          refine ⟨_, rfl, _, rfl, _, rfl, _, rfl, _, _, rfl, rfl, c1, .inl ⟨l, _, _, _, rfl, rfl, SqL.of e1, atI_get? q0 (List.getElem?_eq_getElem lt), _, _, rfl, rfl, ?_⟩⟩
          refine ⟨_, rfl, _, _, rfl, rfl, .inr ⟨by decide, by decide⟩, _, rfl, _, _, rfl, rfl, .inl ⟨_, rfl, _, _, rfl, rfl, (by show (0 : Int) < 2147483647; decide), ?_⟩⟩
          refine ⟨_, rfl, .inl ⟨rfl, _, SqL.of e1⟩, _, rfl, _, _, rfl, rfl, ⟨by decide, by decide⟩, l, _, _, rfl, rfl, e1, ?_, last _ _ _ _⟩
          rw [hlm']
          exact Nat.lt_of_le_of_lt (by omega : ms'.length ≤ 4000) (by decide)
        · refine ⟨_, rfl, _, _, rfl, rfl, .inr ⟨by decide, by decide⟩, _, rfl, _, _, rfl, rfl, .inl ⟨_, rfl, _, _, rfl, rfl, (by show (0 : Int) < 2147483647; decide), ?_⟩⟩
          refine ⟨_, rfl, .inl ⟨rfl, _, SqL.of e1⟩, _, rfl, _, _, rfl, rfl, ⟨by decide, by decide⟩, l, _, _, rfl, rfl, e1, ?_, last _ _ _ _⟩
          rw [hlm']
          exact Nat.lt_of_le_of_lt (by omega : ms'.length ≤ 4000) (by decide)
      · rintro σ H1 ⟨ms', la, v3, v4, v5, v6, rfl, s1, e1, ln, ok⟩
        have full : (ms'.length : Int) = many := by omega
        have hcut : cutV (ms'.map V.int) none (some many) = ms'.map V.int := by
          rw [← full]
          show ((ms'.map V.int).drop 0).take (HT.sIx (ms'.map V.int).length (ms'.map V.int).length (some ((ms'.length : Nat) : Int)) - 0) = _
          rw [HT.sIx_nat, List.drop_zero, Nat.sub_zero, List.length_map, Nat.min_self]
          exact List.take_of_length_le (by rw [List.length_map]; exact Nat.le_refl _)
        refine ⟨_, rfl, _, rfl, many, rfl, l, _, rfl, SqL.of e1, fun d hd => ?_⟩
        rw [hcut]
        exact fin ms' _ d ⟨full, ok⟩ (same_upd s1 hd) (s1.free hd) upd_same
end
end K63

set_option Elab.async false
set_option linter.all false
set_option maxRecDepth 100000
set_option maxHeartbeats 4000000
namespace K63
open PySem PySem.Spec PyProof.Rows L2 Mz
def spBelow (K : PySem.W.Frag) (Pt : Addr) : Sp := fun vs H Q _ => ∃ (a : Addr) (ns : List Int) (L : Int), vs = [.ref a, .int L] ∧ Ints K H a ns ∧ GxR.TabG H Pt ∧ ∀ H', Kp Pt H H' → Q (.bl (belowB ns L)) H'
def spRanks (K : PySem.W.Frag) (Pt : Addr) : Sp := fun vs H Q _ => ∃ (a : Addr) (rs : List Int), vs = [.ref a] ∧ SqT K H a (rs.map V.int) ∧ GxR.TabG H Pt ∧ ∀ H', Kp Pt H H' → Q (.bl (ranksB rs)) H'
section
variable {P : Program} {w : World} {K : PySem.W.Frag} {mg : Str → Option Value} {base : Heap} {A : Ads} {c Pt : Addr}
theorem ok_below (T : Txt K mg A) (TB : GxR.TabB base mg c Pt) (hc : A.d_are_below.code = .ref c) : FnOk P w K mg base CX0 1 A.a_are_below A.d_are_below ["numbers", "limit"] (spBelow K Pt) := by
  refine okC T.F_are_below sc_are_below (fun vs H Q E h => ?_) (fun Ar outer s H vs Q E hr h => ?_)
  · obtain ⟨_, _, _, rfl, _⟩ := h
    rfl
  · obtain ⟨a, ns, L, rfl, hS, hT, fin⟩ := h
    refine ⟨_, (pss_one (ps_ret (pe_allQ (G := GBelow 1) hr (by rfl) T.n_all TB hc (by exact ⟨rfl, rfl, by decide, rfl, rfl, fun y hy e => by (simp only [List.mem_cons, List.not_mem_nil, or_false] at hy; rcases hy with rfl | rfl | rfl <;> first | (cases e; done) | exact cell_has rfl)⟩) (pv 0) (by exact elt_below rfl rfl rfl rfl rfl rfl) (fun _ => rfl)))), ?_⟩
    refine ⟨_, rfl, a, ns.map V.int, (fun v => match v with | .int n => decide (0 ≤ n) && decide (n < L) | _ => false), rfl, hS, hT, fun z hz => ?_, fun H2 hH2 => ?_⟩
    · obtain ⟨n, _, rfl⟩ := List.mem_map.mp hz
      exact ⟨n, L, rfl, rfl, rfl⟩
    · have e : (ns.map V.int).all (fun v => match v with | .int n => decide (0 ≤ n) && decide (n < L) | _ => false) = belowB ns L := by
        rw [List.all_map]
        rfl
      rw [e]
      exact fin H2 (.ofTabbed hH2)
theorem ok_ranks (T : Txt K mg A) (TB : GxR.TabB base mg c Pt) (hc : A.d_are_below.code = .ref c) : FnOk P w K mg base CX0 2 A.a_are_ranks A.d_are_ranks ["ranks"] (spRanks K Pt) := by
  have G_are_below : FnOk P w K mg base CX0 1 A.a_are_below A.d_are_below ["numbers", "limit"] (spBelow K Pt) := ok_below T TB hc
  refine T.F_are_ranks.ok sc_are_ranks (fun vs H Q E h => ?_) (fun cdv Ar outer s H vs Q E hr h => ?_)
  · obtain ⟨_, _, rfl, _⟩ := h
    rfl
  · obtain ⟨a, rs, rfl, hS, hT, fin⟩ := h
    have hr_are_below : Room 1 _ := hr
    refine ⟨_, (pss_one (ps_ret (pe_and (pe_chain op_le op_le pe_int (pe_callB call_len_seq (by rfl) T.n_len PySem.boot_len (pa_cons (pv 0) pa_nil)) (C8.pe_gc (v := .int 5) (by rfl) T.c_MAX_SYMBOLS)) (pe_and (pe_call G_are_below hr_are_below (by rfl) T.g_are_below T.F_are_below.kp T.b_are_below .nil pass0 (pa_cons (pv 0) (pa_cons (pe_op op_add (C8.pe_gc (v := .int 2) (by rfl) T.c_MAX_RANK) pe_int) pa_nil))) (pe_one (pe_cmpR op_in_seq pe_int (pv 0) rfl)))))), ?_⟩
    have f0 := fin H (.refl hT)
    refine ⟨_, rfl, a, _, rfl, .inr hS, _, _, rfl, rfl, _, rfl, ?_⟩
    rw [List.length_map]
    have bad : ranksB rs = false → Q (.bl false) H := fun z => by
      rw [z] at f0
      exact f0
    refine ite2 (fun c1 => ?_) (fun c1 => ?_)
    rotate_left
    · refine ⟨_, rfl, iteF ?_⟩
      refine bad ?_
      have : ¬ 1 ≤ rs.length := fun z => c1 (decide_eq_true (by omega))
      unfold ranksB
      rw [decide_eq_false this]
      rfl
    have l1 : 1 ≤ rs.length := by
      have := of_decide_eq_true c1
      omega
    refine ⟨_, _, rfl, rfl, _, rfl, ?_⟩
    refine ite2 (fun c2 => ?_) (fun c2 => ?_)
    rotate_left
    · refine bad ?_
      have : ¬ rs.length ≤ 5 := fun z => c2 (decide_eq_true (by omega))
      unfold ranksB
      rw [decide_eq_false this, Bool.and_false]
      rfl
    have l5 : rs.length ≤ 5 := by
      have := of_decide_eq_true c2
      omega
    refine ⟨_, rfl, _, _, rfl, rfl, a, rs, 3, rfl, .inr hS, hT, fun H1 k1 => ?_⟩
    have f1 := fin H1 k1
    unfold ranksB at f1
    rw [decide_eq_true l1, decide_eq_true l5] at f1
    refine ⟨_, rfl, ?_⟩
    cases hb : belowB rs 3 with
    | false =>
      rw [hb] at f1
      exact iteF f1
    | true =>
      rw [hb] at f1
      refine iteT ?_
      refine ⟨_, rfl, a, _, rfl, .inr (k1.seqT hT hS), rfl, flatI rs, ?_⟩
      rw [inVI]
      exact f1
end
def spLawRanks : Sp := fun vs H Q _ => ∃ n : Int, vs = [.int n] ∧ 0 ≤ n ∧ ∀ (rs : List Int) (q : Addr) (H' : Hp), ranksB rs = true → Same H H' → H q = none → (∃ o : Obj, o.dict = none ∧ H' q = some (.frz o (.tup (rs.map V.int)))) → Q (.ref q) H'
/-- numbers to draw by -/
structure Pos (ms : List Int) : Prop where
  ne : 0 < ms.length
  ok : ∀ z ∈ ms, 0 ≤ z
theorem Pos.at_ {ms : List Int} (h : Pos ms) (i : Int) : ∃ z, ms[(i % (ms.length : Int)).toNat]? = some z ∧ 0 ≤ z ∧ 0 ≤ i % (ms.length : Int) := by
  obtain ⟨z, e, _, e0⟩ := pk_at i h.ne
  exact ⟨z, e, h.ok z (List.mem_of_getElem? e), e0⟩
theorem lack_snoc {rs : List Int} : ∀ {t : List Int} {m n s : Int}, lackG rs t m = some n → n ≠ 0 → lackG rs (t ++ [s]) m = some (n + (rs.getD s.toNat 0 - 1))
  | [], m, n, s, h, h0 => by
    have e : m = n := Option.some.inj h
    subst e
    show lackG rs [s] m = _
    rw [lackG, if_neg h0, lackG]
  | a :: t, m, n, s, h, h0 => by
    rw [lackG] at h
    show lackG rs (a :: (t ++ [s])) m = _
    rw [lackG]
    by_cases z : m = 0
    · rw [if_pos z] at h
      cases h
    · rw [if_neg z] at h ⊢
      exact lack_snoc h h0
section
variable {P : Program} {w : World} {K : PySem.W.Frag} {mg : Str → Option Value} {base : Heap} {A : Ads} {c Pt : Addr}
theorem ok_lawranks (T : Txt K mg A) : FnOk P w K mg base CX0 1 A.a_law_ranks A.d_law_ranks ["number"] spLawRanks := by
  refine T.F_law_ranks.ok sc_law_ranks (fun vs H Q E h => ?_) (fun cdv Ar outer s H vs Q E hr h => ?_)
  · obtain ⟨_, rfl, _⟩ := h
    rfl
  · obtain ⟨n, rfl, n0, fin⟩ := h
    refine ⟨_, (pss_cons (ps_setLc (i := 1) (own := [("k", 2)]) (g := (gName 2)) (tt := tYes) rfl sc_law_ranks.nd rfl rfl (sw_true rfl rfl rfl (by decide +kernel)) (pi_range1 (by rfl) T.n_range (pa_cons (pe_op op_add pe_int (pe_op op_mod (pv 0) pe_int)) pa_nil)) (blkOk_by (N := ["number", "ranks", "k"]) (sc := defScope s_law_ranks) (by decide +kernel)) (fun _ _ _ _ _ => (pg_name (i := 2) sc_law_ranks.nd rfl (Or.inl rfl))) (fun _ _ _ _ _ => pts_nil) (fun _ _ _ _ _ => (pe_op op_mod (pe_op op_fdiv (pv 0) (pe_op op_add pe_int (pe_op op_mul pe_int (pv 2)))) pe_int)))
      (pss_cons (ps_if (pt_cmpR op_notIn_seq pe_int (pv 1) rfl) (pss_one (ps_asg pe_int (pg_sub (pv 1) (pe_op op_mod (pe_op op_fdiv (pv 0) pe_int) (pe_callB call_len_seq (by rfl) T.n_len PySem.boot_len (pa_cons (pv 1) pa_nil))) set_list))) pss_nil)
      (pss_one (ps_ret (pe_callTy call_tupleF (by rfl) T.n_tuple (by decide +kernel) (pa_cons (pv 1) pa_nil)))))), ?_⟩
    refine ⟨_, rfl, _, _, rfl, rfl, (by show (0 : Int) < 5; decide), _, _, rfl, rfl, ?_⟩
    have m0 : 0 ≤ n % 5 := Int.emod_nonneg _ (by decide)
    have m1 : n % 5 < 5 := Int.emod_lt_of_pos _ (by decide)
    refine ⟨_, rfl, by omega, by omega, ?_⟩
    intro D hD
    refine lc_range (fun t H1 => ∃ u : List Int, H1 = upd H D (.lst (u.map V.int)) ∧ u.length = t ∧ ∀ z ∈ u, 0 ≤ z ∧ z < 3) ⟨[], rfl, rfl, fun z hz => absurd hz (by simp)⟩ ?_ ?_
    · rintro t H1 ht ⟨u, rfl, d1, d2⟩
      refine ⟨rfl, ?_⟩
      refine ⟨_, rfl, _, rfl, _, _, rfl, rfl, .inl ⟨by decide, by decide⟩, _, _, rfl, rfl, _, _, rfl, rfl, ⟨by omega, by omega⟩, _, _, rfl, rfl, (by show (0 : Int) < 3; decide), ?_⟩
      have e0 := Int.emod_nonneg (n / (1 + 4 * (0 + (t : Int)))) (show (3 : Int) ≠ 0 by decide)
      have e1 := Int.emod_lt_of_pos (n / (1 + 4 * (0 + (t : Int)))) (show (0 : Int) < 3 by decide)
      refine ⟨_, upd_same, ?_, u ++ [_], (by rw [upd_upd, List.map_append]; rfl), (by rw [List.length_append, d1]; rfl), ?_⟩
      · rw [List.length_map]
        exact Nat.lt_of_le_of_lt (by omega : u.length ≤ 4) (by decide)
      · intro z hz
        rcases List.mem_append.mp hz with e | e
        · exact d2 z e
        · rw [List.mem_singleton.mp e]
          exact ⟨e0, e1⟩
    · rintro H1 ⟨u, rfl, d1, d2⟩
      have l1 : 1 ≤ u.length := by omega
      have l5 : u.length ≤ 5 := by omega
      have hU : (upd H D (.lst (u.map V.int))) D = some (.lst (u.map V.int)) := upd_same
      have last : ∀ (rs : List Int) (H2 : Hp), ranksB rs = true → Same H H2 → H2 D = some (.lst (rs.map V.int)) → ∃ p ys, [V.ref D] = [V.ref p] ∧ SqL K H2 p ys ∧ ∀ (l : Addr) (o : Obj), H2 l = none → o.dict = none → Q (.ref l) (upd H2 l (.frz o (.tup ys))) := by
        intro rs H2 q1 q2 q3
        exact ⟨D, _, rfl, SqL.of q3, fun l o hl nd => fin rs l _ q1 (same_upd q2 hl) (q2.free hl) ⟨o, nd, upd_same⟩⟩
      refine ⟨_, rfl, D, _, rfl, .inl (SqL.of hU), rfl, flatI u, _, rfl, ?_⟩
      rw [inVI]
      refine ite2 (fun c1 => ?_) (fun c1 => ?_)
      · have q0 := Int.emod_nonneg (n / 3) (show (u.length : Int) ≠ 0 by omega)
        have q1 := Int.emod_lt_of_pos (n / 3) (show 0 < (u.length : Int) by omega)
        refine ⟨_, rfl, _, rfl, _, _, rfl, rfl, ⟨by decide, by decide⟩, _, rfl, D, _, rfl, .inl (SqL.of hU), ?_⟩
        rw [List.length_map]
        refine ⟨_, _, rfl, rfl, (by show 0 < (u.length : Int); omega), D, _, _, (n / 3 % (u.length : Int)).toNat, rfl, rfl, hU, ?_, ?_⟩
        · rw [List.length_map]
          exact ixN_inR q0 q1
        · have j1 : (n / 3 % (u.length : Int)).toNat < u.length := by omega
          generalize (n / 3 % (u.length : Int)).toNat = j at j1
          rw [← List.map_set, upd_upd]
          refine (fun z => ⟨_, rfl, z⟩) (last _ _ (ranks_iff.mpr ⟨?_, ?_, fun z hz => ?_, mem_set_self j1⟩) (same_upd (Same.refl _) hD) upd_same)
          · rw [List.length_set]
            exact l1
          · rw [List.length_set]
            exact l5
          · rcases mem_set_or hz with e | e
            · exact d2 z e
            · rw [e]
              decide
      · refine (fun z => ⟨_, rfl, z⟩) (last _ _ (ranks_iff.mpr ⟨l1, l5, d2, ?_⟩) (same_upd (Same.refl _) hD) upd_same)
        by_cases z : (0 : Int) ∈ u
        · exact z
        · exact absurd (by simp [z]) c1
end
end K63

set_option Elab.async false
set_option linter.all false
set_option maxRecDepth 100000
set_option maxHeartbeats 4000000
namespace K63
open PySem PySem.Spec PyProof.Rows L2 Mz
def spCheckM (K : PySem.W.Frag) (A : Ads) (Pt : Addr) : Sp := fun vs H Q E => ∃ (m : Addr) (M : TM), vs = [.ref m] ∧ TMA H m M ∧ M.os.natAbs < 2 ^ 60 ∧ M.outs.length < 2 ^ 60 ∧ GxR.TabG H Pt ∧
  ∀ H', Kp Pt H H' → (GoodT M → Q .non H') ∧ (¬ GoodT M → E (.ref A.a_NotAllowed) none H')
theorem size_at {n r : Int} (h0 : 0 ≤ r) (h3 : r < 3) : [(1 : Int), n, n * n][r.toNat]? = some (n ^ r.toNat) := by
  have : r = 0 ∨ r = 1 ∨ r = 2 := by omega
  rcases this with rfl | rfl | rfl
  · show some 1 = some (n ^ 0)
    rw [Int.pow_zero]
  · show some n = some (n ^ 1)
    rw [Int.pow_succ, Int.pow_zero, Int.one_mul]
  · show some (n * n) = some (n ^ 2)
    rw [Int.pow_succ, Int.pow_succ, Int.pow_zero, Int.one_mul]
section
variable {P : Program} {w : World} {K : PySem.W.Frag} {mg : Str → Option Value} {base : Heap} {A : Ads} {c Pt : Addr}
theorem ok_checkm (T : Txt K mg A) (TB : GxR.TabB base mg c Pt) (hc : A.d_are_below.code = .ref c) : FnOk P w K mg base (L2N.CX P w) 3 A.a_check_tree_machine A.d_check_tree_machine ["machine"] (spCheckM K A Pt) := by
  have G_are_below : FnOk P w K mg base CX0 1 A.a_are_below A.d_are_below ["numbers", "limit"] (spBelow K Pt) := ok_below T TB hc
  have G_are_ranks : FnOk P w K mg base CX0 2 A.a_are_ranks A.d_are_ranks ["ranks"] (spRanks K Pt) := ok_ranks T TB hc
  refine okN T.F_check_tree_machine sc_check_tree_machine (fun vs H Q E h => ?_) (fun cdv Ar outer s H vs Q E hr h => ?_)
  · obtain ⟨_, _, rfl, _⟩ := h
    rfl
  · obtain ⟨m, M, rfl, ⟨r, ru, ou, qs, hM⟩, to, tn, hT, fin⟩ := h
    have hr_are_below : Room 1 _ := hr.mono (by decide)
    have hr_are_ranks : Room 2 _ := hr
    refine ⟨_, (pss_cons (ps_asg (pv 0) (pg_tup rfl (pgs_cons (pg_name (i := 1) sc_check_tree_machine.nd rfl (Or.inl rfl)) (pgs_cons (pg_name (i := 2) sc_check_tree_machine.nd rfl (Or.inl rfl)) (pgs_cons (pg_name (i := 3) sc_check_tree_machine.nd rfl (Or.inl rfl)) (pgs_cons (pg_name (i := 4) sc_check_tree_machine.nd rfl (Or.inl rfl)) pgs_nil))))))
      (pss_cons (ps_if (pt_not (pt_val (pe_call G_are_ranks hr_are_ranks (by rfl) T.g_are_ranks T.F_are_ranks.kp T.b_are_ranks .nil pass0 (pa_cons (pv 1) pa_nil)))) (pss_one (L2N.ps_raise rfl (L2N.takes_of rfl rfl rfl rfl) (L2N.pmk_own PySem.F.excBase_ValueError T.x_NotAllowed T.g_NotAllowed T.k_NotAllowed (raises_own T.sb_NotAllowed T.ty_NotAllowed) (by rfl)))) pss_nil)
      (pss_cons (ps_if (pt_not (pt_chain op_le op_le pe_int (pv 2) (C8.pe_gc (v := .int 4) (by rfl) T.c_MAX_TREE_OUTS))) (pss_one (L2N.ps_raise rfl (L2N.takes_of rfl rfl rfl rfl) (pmk_any PySem.F.excBase_ValueError T.x_NotAllowed T.g_NotAllowed T.k_NotAllowed (raises_own T.sb_NotAllowed T.ty_NotAllowed) (by rfl) (pa_cons (pe_joined (.cons pe_str (.cons (pe_fmt (C8.pe_gc (v := .int 4) (by rfl) T.c_MAX_TREE_OUTS)) (.cons pe_str (.cons (pe_fmt (pv 2)) .nil))))) pa_nil)))) pss_nil)
      (pss_cons (ps_set (i := 5) sc_check_tree_machine.nd rfl (Or.inl rfl) (pe_callB call_len_seq (by rfl) T.n_len PySem.boot_len (pa_cons (pv 4) pa_nil)))
      (pss_cons (ps_if (pt_not (pt_chain op_le op_le pe_int (pv 5) (C8.pe_gc (v := .int 6) (by rfl) T.c_MAX_TREE_STATES))) (pss_one (L2N.ps_raise rfl (L2N.takes_of rfl rfl rfl rfl) (pmk_any PySem.F.excBase_ValueError T.x_NotAllowed T.g_NotAllowed T.k_NotAllowed (raises_own T.sb_NotAllowed T.ty_NotAllowed) (by rfl) (pa_cons (pe_joined (.cons pe_str (.cons (pe_fmt (C8.pe_gc (v := .int 6) (by rfl) T.c_MAX_TREE_STATES)) (.cons pe_str (.cons (pe_fmt (pv 5)) .nil))))) pa_nil)))) pss_nil)
      (pss_cons (ps_if (pt_not (pt_val (pe_call G_are_below hr_are_below (by rfl) T.g_are_below T.F_are_below.kp T.b_are_below .nil pass0 (pa_cons (pv 4) (pa_cons (pv 2) pa_nil))))) (pss_one (L2N.ps_raise rfl (L2N.takes_of rfl rfl rfl rfl) (pmk_any PySem.F.excBase_ValueError T.x_NotAllowed T.g_NotAllowed T.k_NotAllowed (raises_own T.sb_NotAllowed T.ty_NotAllowed) (by rfl) (pa_cons (pe_joined (.cons pe_str (.cons (pe_fmt (pe_op op_sub (pv 2) pe_int)) .nil))) pa_nil)))) pss_nil)
      (pss_cons (ps_if (pt_cmpR op_ne (pe_callB call_len_seq (by rfl) T.n_len PySem.boot_len (pa_cons (pv 3) pa_nil)) (pe_callB call_len_seq (by rfl) T.n_len PySem.boot_len (pa_cons (pv 1) pa_nil)) (nomark _)) (pss_one (L2N.ps_raise rfl (L2N.takes_of rfl rfl rfl rfl) (L2N.pmk_own PySem.F.excBase_ValueError T.x_NotAllowed T.g_NotAllowed T.k_NotAllowed (raises_own T.sb_NotAllowed T.ty_NotAllowed) (by rfl)))) pss_nil)
      (pss_one (ps_for (passes_of rfl) rfl (RZ.pi_zipA (by rfl) T.n_zip (pa_cons (pv 1) (pa_cons (pv 3) pa_nil))) (pg_tup rfl (pgs_cons (pg_name (i := 6) sc_check_tree_machine.nd rfl (Or.inl rfl)) (pgs_cons (pg_name (i := 7) sc_check_tree_machine.nd rfl (Or.inl rfl)) pgs_nil)))
        (pss_one (ps_if (PW.pt (pw_or (pt_cmpR op_ne (pe_callB call_len_seq (by rfl) T.n_len PySem.boot_len (pa_cons (pv 7) pa_nil)) (pe_ix (r := rIx K) ix_seq (pe_tup (pa_cons pe_int (pa_cons (pv 5) (pa_cons (pe_op op_mul (pv 5) (pv 5)) pa_nil)))) (pv 6) (fun _ _ => rfl)) (nomark _)) (pw_or1 (pt_not (pt_val (pe_call G_are_below hr_are_below (by rfl) T.g_are_below T.F_are_below.kp T.b_are_below .nil pass0 (pa_cons (pv 7) (pa_cons (pv 5) pa_nil)))))))) (pss_one (L2N.ps_raise rfl (L2N.takes_of rfl rfl rfl rfl) (L2N.pmk_own PySem.F.excBase_ValueError T.x_NotAllowed T.g_NotAllowed T.k_NotAllowed (raises_own T.sb_NotAllowed T.ty_NotAllowed) (by rfl)))) pss_nil))))))))))), ?_⟩
    refine ⟨_, rfl, m, _, rfl, SqT.of hM.top, rfl, _, _, rfl, _, _, rfl, _, _, rfl, _, _, rfl, rfl, ?_⟩
    refine ⟨_, rfl, r, M.rs, rfl, rd_t hM.rs, hT, fun H1 k1 => ⟨_, rfl, ?_⟩⟩
    have f1 := fin H1 k1
    cases hb : ranksB M.rs with
    | false => exact iteT (f1.2 fun g => by rw [g.rk] at hb; cases hb)
    | true =>
      refine iteF ?_
      have rk := ranks_iff.mp hb
      have hM1 := k1.tmt hT hM
      have lou : (M.outs.map V.int).length = M.outs.length := List.length_map ..
      -- outs
      refine ⟨_, rfl, ?_⟩
      refine ⟨_, _, rfl, rfl, _, rfl, ?_⟩
      refine ite2 (fun c3 => ?_) (fun c3 => ⟨_, rfl, iteT0 ?_⟩)
      rotate_left
      · exact js_4 (fun q => q) (fun q => ⟨_, rfl, q⟩) (by decide) (by omega) (by decide) (by decide) fun out => ⟨by show 1 ≤ sizeLine; decide, f1.2 fun g => c3 (decide_eq_true g.o1)⟩
      refine ⟨_, _, rfl, rfl, _, rfl, iteN2 (fun c4 => ?_) (fun c4 => ?_)⟩
      · exact js_4 (fun q => q) (fun q => ⟨_, rfl, q⟩) (by decide) (by omega) (by decide) (by decide) fun out => ⟨by show 1 ≤ sizeLine; decide, f1.2 fun g => c4 g.o4⟩
      -- count
      refine ⟨_, rfl, ou, _, rfl, .inr (SqT.of hM1.ou), ?_⟩
      rw [lou]
      refine ⟨_, rfl, ?_⟩
      refine ⟨_, _, rfl, rfl, _, rfl, ?_⟩
      refine ite2 (fun c5 => ?_) (fun c5 => ⟨_, rfl, iteT0 ?_⟩)
      rotate_left
      · exact js_4 (i2 := (M.outs.length : Int)) (fun q => q) (fun q => ⟨_, rfl, q⟩) (by decide) (by omega) (by decide) (by decide) fun out => ⟨by show 1 ≤ sizeLine; decide, f1.2 fun g => c5 (decide_eq_true (by have := g.n1; omega))⟩
      refine ⟨_, _, rfl, rfl, _, rfl, iteN2 (fun c6 => ?_) (fun c6 => ?_)⟩
      · exact js_4 (i2 := (M.outs.length : Int)) (fun q => q) (fun q => ⟨_, rfl, q⟩) (by decide) (by omega) (by decide) (by decide) fun out => ⟨by show 1 ≤ sizeLine; decide, f1.2 fun g => c6 (by have := g.n6; omega)⟩
      -- outputs
      refine ⟨_, rfl, _, rfl, ou, M.outs, M.os, rfl, .inr (SqT.of hM1.ou), k1.tab, fun H2 k2 => ⟨_, rfl, ?_⟩⟩
      have k12 := k1.trans k2
      have f2 := fin H2 k12
      have hM2 := k12.tmt hT hM
      refine iteB (fun c7 => ?_) (fun c7 => ?_)
      · refine js_2 (i1 := M.os - 1) (fun q => ⟨_, rfl, _, _, rfl, rfl, q⟩) (by omega) (by decide) fun out => ⟨by show 1 ≤ sizeLine; decide, f2.2 fun g => ?_⟩
        rw [below_iff.mpr g.ob] at c7
        cases c7
      -- as many rules
      refine ⟨_, rfl, ru, _, rfl, .inr (SqT.of hM2.ru), _, rfl, r, _, rfl, .inr (rd_t hM2.rs), ?_⟩
      rw [show (qs.map V.ref).length = M.rules.length by rw [List.length_map, hM.len], show (M.rs.map V.int).length = M.rs.length from List.length_map ..]
      refine ⟨rfl, _, rfl, ?_⟩
      refine ite2 (fun c8 => ?_) (fun c8 => ?_)
      · exact f2.2 fun g => by
          have := g.rl
          simp at c8
          omega
      have c8 : M.rules.length = M.rs.length := by
        simp at c8
        omega
      have n1 : 1 ≤ M.outs.length := by
        have := of_decide_eq_true c5
        omega
      have n6 : M.outs.length ≤ 6 := by
        have : (M.outs.length : Int) ≤ 6 := c6
        omega
      have o1 : 1 ≤ M.os := of_decide_eq_true c3
      have o4 : M.os ≤ 4 := c4
      refine ⟨_, rfl, _, rfl, r, ru, _, _, rfl, .inr ⟨rd_t hM2.rs, SqT.of hM2.ru, RZ.for_zipT (K := K) (a := r) (b := ru) (xs := M.rs.map V.int) (ys := qs.map V.ref) (by rw [List.length_map, List.length_map, hM.len, c8])
        (fun i σ H' => ∃ v6 v7 : Option V, σ = [some (.ref m), some (.ref r), some (.int M.os), some (.ref ru), some (.ref ou), some (.int (M.outs.length : Int)), v6, v7] ∧ Kp Pt H H' ∧ ∀ (j : Nat) (x : Int) (w : List Int), j < i → M.rs[j]? = some x → M.rules[j]? = some w → w.length = M.outs.length ^ x.toNat ∧ Lt (M.outs.length : Int) w)
        ⟨none, none, rfl, k12, fun j x w hj => absurd hj (by omega)⟩ (fun i σ H' ⟨_, _, _, k, _⟩ => ⟨rd_t (k.rd hT hM.rs), SqT.of (k.tup hT hM.ru)⟩) ?_ ?_⟩⟩
      · rintro i x y Tt σ H' hx hy ⟨v6, v7, rfl, k, ok⟩ hTt
        obtain ⟨rank, hrank, rfl⟩ := ofV hx
        obtain ⟨q, hq, rfl⟩ := ofV hy
        obtain ⟨x0, x3⟩ := rk.2.2.1 rank (List.mem_of_getElem? hrank)
        have il := (List.getElem?_eq_some_iff.mp hq).1
        rw [hM.len] at il
        have hw : M.rules[i]? = some M.rules[i] := List.getElem?_eq_getElem il
        have kT := k.andS (same_upd (o := .tup [.int rank, .ref q]) (Same.refl H') hTt)
        refine ⟨Tt, _, rfl, SqT.of upd_same, rfl, _, _, rfl, _, _, rfl, rfl, ?_⟩
        generalize upd H' Tt (.tup [.int rank, .ref q]) = H3 at *
        have hq3 := kT.tup hT (hM.row i q _ hq hw)
        refine ⟨_, rfl, q, _, rfl, .inr (SqT.of hq3), ?_⟩
        rw [show (M.rules[i].map V.int).length = M.rules[i].length from List.length_map ..]
        refine ⟨_, rfl, _, rfl, _, rfl, _, _, rfl, rfl, .inl ⟨by omega, by omega⟩, (by show 3 ≤ sizeLine; decide), fun d hd => ?_⟩
        have kd := kT.andS (same_upd (o := .tup [.int 1, .int (M.outs.length : Int), .int ((M.outs.length : Int) * (M.outs.length : Int))]) (Same.refl H3) hd)
        have ed : (upd H3 d (.tup [.int 1, .int (M.outs.length : Int), .int ((M.outs.length : Int) * (M.outs.length : Int))])) d = some (.tup (([1, (M.outs.length : Int), (M.outs.length : Int) * (M.outs.length : Int)] : List Int).map V.int)) := upd_same
        generalize upd H3 d (.tup [.int 1, .int (M.outs.length : Int), .int ((M.outs.length : Int) * (M.outs.length : Int))]) = H4 at *
        refine ⟨_, rfl, .inr (.inl ⟨d, _, rank, _, rfl, rfl, SqT.of ed, atI_get? x0 (size_at x0 x3), ?_⟩)⟩
        have f4 := fin H4 kd
        have en : ((M.outs.length : Int)) ^ rank.toNat = ((M.outs.length ^ rank.toNat : Nat) : Int) := by rw [Int.natCast_pow]
        refine ⟨rfl, _, rfl, ?_⟩
        rw [en]
        refine ite2 (fun c9 => ?_) (fun c9 => ?_)
        · exact f4.2 fun g => by
            have := g.sz i rank _ hrank hw
            rw [this] at c9
            simp at c9
        have c9 : M.rules[i].length = M.outs.length ^ rank.toNat := by
          simp at c9
          omega
        refine ⟨_, rfl, _, rfl, q, M.rules[i], _, rfl, .inr (SqT.of (kd.tup hT (hM.row i q _ hq hw))), kd.tab, fun H5 k5 => ⟨_, rfl, ?_⟩⟩
        have k45 := kd.trans k5
        refine iteB (fun ca => ?_) (fun ca => ?_)
        · exact (fin H5 k45).2 fun g => by
            rw [below_iff.mpr (g.rb _ (List.getElem_mem il))] at ca
            cases ca
        · refine ⟨_, _, rfl, k45, fun j x w hj hx' hw' => ?_⟩
          rcases Nat.lt_or_ge j i with z | z
          · exact ok j x w z hx' hw'
          · have : j = i := by omega
            subst this
            rw [hrank] at hx'
            rw [hw] at hw'
            cases hx'
            cases hw'
            exact ⟨c9, below_iff.mp ca⟩
      · rintro σ H' ⟨v6, v7, rfl, k, ok⟩
        rw [List.length_map] at ok
        refine (fin H' k).1 ⟨hb, o1, o4, n1, n6, below_iff.mp c7, c8, fun i x w hx hw => ?_, fun w hw => ?_⟩
        · exact (ok i x w (List.getElem?_eq_some_iff.mp hx).1 hx hw).1
        · obtain ⟨i, hi⟩ := List.mem_iff_getElem?.mp hw
          have il := (List.getElem?_eq_some_iff.mp hi).1
          have il2 : i < M.rs.length := by omega
          exact (ok i _ w il2 (List.getElem?_eq_getElem il2) hi).2
end
end K63

set_option Elab.async false
set_option linter.all false
set_option maxRecDepth 100000
set_option maxHeartbeats 4000000
namespace K63
open PySem PySem.Spec PyProof.Rows L2 Mz
def spTreeMachine (K : PySem.W.Frag) : Sp := fun vs H Q _ => ∃ (p r : Addr) (ms rs : List Int) (o x : Int) (n : Nat), vs = [.ref p, .ref r, .int o, .int x] ∧ x = (n : Int) ∧ SqL K H p (ms.map V.int) ∧ Pos ms ∧ Rd H r (.tup (rs.map V.int)) ∧ ranksB rs = true ∧ 1 ≤ o ∧ o ≤ 4 ∧ 1 ≤ n ∧ n ≤ 6 ∧
  ∀ (M : TM) (H' : Hp) (m : Addr), GoodT M → M.rs = rs → M.os = o → M.outs.length = n → Same H H' → TMA H' m M → Q (.ref m) H'
def spRule (K : PySem.W.Frag) : Sp := fun vs H Q _ => ∃ (m kd : Addr) (M : TM) (s : Int) (ks : List Int), vs = [.ref m, .int s, .ref kd] ∧ TMA H m M ∧ GoodT M ∧ 0 ≤ s ∧ s < (M.rs.length : Int) ∧ SqL K H kd (ks.map V.int) ∧ (∀ k ∈ ks, 0 ≤ k ∧ k < M.n) ∧ ks.length = (M.rank s).toNat ∧ Q (.int (M.to s ks)) H
section
variable {P : Program} {w : World} {K : PySem.W.Frag} {mg : Str → Option Value} {base : Heap} {A : Ads} {c Pt : Addr}
theorem ok_rule (T : Txt K mg A) : FnOk P w K mg base CX0 1 A.a_law_rule A.d_law_rule ["machine", "symbol", "kids"] (spRule K) := by
  refine T.F_law_rule.ok sc_law_rule (fun vs H Q E h => ?_) (fun cdv Ar outer s H vs Q E hr h => ?_)
  · obtain ⟨_, _, _, _, _, rfl, _⟩ := h
    rfl
  · obtain ⟨m, kd, M, s, ks, rfl, ⟨r, ru, ou, qs, hM⟩, g, s0, s1, hS, hk, hl, fin⟩ := h
    refine ⟨_, (pss_cons (ps_set (i := 3) sc_law_rule.nd rfl (Or.inl rfl) pe_int)
      (pss_cons (ps_for PassesOwn.never rfl (pi_list (pv 2)) (pg_name (i := 4) sc_law_rule.nd rfl (Or.inl rfl))
        (pss_one (ps_set (i := 3) sc_law_rule.nd rfl (Or.inl rfl) (pe_op op_add (pe_op op_mul (pv 3) (pe_callB call_len_seq (by rfl) T.n_len PySem.boot_len (pa_cons (pe_ix (r := rIx K) ix_seq (pv 0) pe_int (fun _ _ => rfl)) pa_nil))) (pv 4)))))
      (pss_one (ps_ret (pe_ix (r := rIx K) ix_seq (pe_ix (r := rIx K) ix_seq (pe_ix (r := rIx K) ix_seq (pv 0) pe_int (fun _ _ => rfl)) (pv 1) (fun _ _ => rfl)) (pv 3) (fun _ _ => rfl)))))), ?_⟩
    have n6 := g.n6
    have lk : (ks.map V.int).length = ks.length := List.length_map ..
    refine ⟨_, rfl, kd, rfl, ⟨_, hS⟩, for_list (K := K) (a := kd) (xs := ks.map V.int) (fun i σ H' => ∃ v4 : Option V, σ = [some (.ref m), some (.int s), some (.ref kd), some (.int (plc M.n (ks.take i))), v4] ∧ H' = H)
      ⟨none, rfl, rfl⟩ (fun i σ H' _ ⟨_, _, e⟩ => by rw [e]; exact hS) ?_ ?_⟩
    · rintro i y σ H' hi ⟨v4, rfl, rfl⟩
      obtain ⟨z, hz, rfl⟩ := ofV hi
      refine ⟨_, rfl, _, rfl, .inr (.inl ⟨m, _, 3, _, rfl, rfl, SqT.of hM.top, rfl, ?_⟩)⟩
      refine ⟨ou, _, rfl, .inr (SqT.of hM.ou), ?_⟩
      rw [show (M.outs.map V.int).length = M.outs.length from List.length_map ..]
      refine ⟨_, _, rfl, rfl, .inr ⟨by omega, by omega⟩, _, rfl, _, _, rfl, rfl, ?_⟩
      refine ⟨some (.int z), ?_, rfl⟩
      rw [take_more hz, plc_snoc]
      rfl
    · rintro σ H' ⟨v4, rfl, rfl⟩
      rw [lk, List.take_length]
      obtain ⟨er, p0, ee, _, _⟩ := entry_at g s0 s1 hk hl
      have ll := hM.len
      have rl := g.rl
      have eq_ : qs[s.toNat]? = some qs[s.toNat] := List.getElem?_eq_getElem (by omega)
      have hrow := hM.row _ _ _ eq_ er
      refine ⟨_, rfl, .inr (.inl ⟨m, _, 2, _, rfl, rfl, SqT.of hM.top, rfl, ?_⟩)⟩
      refine ⟨_, rfl, .inr (.inl ⟨ru, _, s, _, rfl, rfl, SqT.of hM.ru, atI_get? s0 eq_, ?_⟩)⟩
      exact ⟨_, rfl, .inr (.inl ⟨_, _, _, _, rfl, rfl, SqT.of hrow, atI_get? p0 ee, fin⟩)⟩
theorem ok_treemachine (T : Txt K mg A) : FnOk P w K mg base CX0 1 A.a_law_tree_machine A.d_law_tree_machine ["numbers", "ranks", "outs", "states"] (spTreeMachine K) := by
  refine T.F_law_tree_machine.ok sc_law_tree_machine (fun vs H Q E h => ?_) (fun cdv Ar outer s H vs Q E hr h => ?_)
  · obtain ⟨_, _, _, _, _, _, _, rfl, _⟩ := h
    rfl
  · obtain ⟨p, r, ms, rs, o, x, n, rfl, rfl, hS, hm, hR, hrs, o1, o4, n1, n6, fin⟩ := h
    refine ⟨_, (pss_cons (ps_set (i := 4) sc_law_tree_machine.nd rfl (Or.inl rfl) (pe_lst pa_nil))
      (pss_cons (ps_for PassesOwn.never rfl (pi_range1 (by rfl) T.n_range (pa_cons (pe_callB call_len_seq (by rfl) T.n_len PySem.boot_len (pa_cons (pv 1) pa_nil)) pa_nil)) (pg_name (i := 5) sc_law_tree_machine.nd rfl (Or.inr rfl))
        (pss_cons (ps_set (i := 6) sc_law_tree_machine.nd rfl (Or.inl rfl) (pe_ix (r := rIx K) ix_seq (pe_lst (pa_cons pe_int (pa_cons (pv 3) (pa_cons (pe_op op_mul (pv 3) (pv 3)) pa_nil)))) (pe_ix (r := rIx K) ix_seq (pv 1) (pv 5) (fun _ _ => rfl)) (fun _ _ => rfl)))
          (pss_one (ps_expr (pe_bm PySem.F.plainAttrs_list PySem.F.slot_list_append PySem.F.type_list_append mt_append (pv 4) (pa_cons (pe_callTy call_tuple_of (by rfl) T.n_tuple (by decide +kernel) (pa_cons (pe_lc (own := [("k", 9)]) (g := (gName 9)) (tt := tYes) rfl sc_law_tree_machine.nd (pi_range1 (by rfl) T.n_range (pa_cons (pv 6) pa_nil)) (blkOk_by (N := ["numbers", "ranks", "outs", "states", "rules", "symbol", "size", "outputs", "state", "k"]) (sc := defScope s_law_tree_machine) (by decide +kernel)) (fun _ _ _ _ _ => (pg_name (i := 9) sc_law_tree_machine.nd rfl (Or.inl rfl))) (fun _ _ _ _ _ => pts_nil) (fun _ _ _ _ _ => (pe_op op_mod (pe_op op_fdiv (pe_ix (r := rIx K) ix_seq (pv 0) (pe_op op_mod (pe_callTy (T := "int") call_int1 (by rfl) T.n_int (by decide +kernel) (pa_cons (pe_op op_add (pe_op op_mul pe_int (pv 5)) (pv 9)) pa_nil)) (pe_callB (r := rLenC K) call_lenC (by rfl) T.n_len PySem.boot_len (pa_cons (pv 0) pa_nil))) (fun _ _ => rfl)) pe_int) (pv 3)))) pa_nil)) pa_nil))))))
      (pss_cons (ps_setLc (i := 7) (own := [("state", 8)]) (g := (gName 8)) (tt := tYes) rfl sc_law_tree_machine.nd rfl rfl (sw_true rfl rfl rfl (by decide +kernel)) (pi_range1 (by rfl) T.n_range (pa_cons (pv 3) pa_nil)) (blkOk_by (N := ["numbers", "ranks", "outs", "states", "rules", "symbol", "size", "outputs", "state", "k"]) (sc := defScope s_law_tree_machine) (by decide +kernel)) (fun _ _ _ _ _ => (pg_name (i := 8) sc_law_tree_machine.nd rfl (Or.inl rfl))) (fun _ _ _ _ _ => pts_nil) (fun _ _ _ _ _ => (pe_op op_mod (pe_op op_fdiv (pe_ix (r := rIx K) ix_seq (pv 0) (pe_op op_mod (pe_callTy (T := "int") call_int1 (by rfl) T.n_int (by decide +kernel) (pa_cons (pe_op op_add pe_int (pe_op op_mul pe_int (pv 8))) pa_nil)) (pe_callB (r := rLenC K) call_lenC (by rfl) T.n_len PySem.boot_len (pa_cons (pv 0) pa_nil))) (fun _ _ => rfl)) pe_int) (pv 2))))
      (pss_one (ps_ret (pe_tup (pa_cons (pv 1) (pa_cons (pv 2) (pa_cons (pe_callTy call_tuple_of (by rfl) T.n_tuple (by decide +kernel) (pa_cons (pv 4) pa_nil)) (pa_cons (pe_callTy call_tuple_of (by rfl) T.n_tuple (by decide +kernel) (pa_cons (pv 7) pa_nil)) pa_nil)))))))))), ?_⟩
    obtain ⟨r1, r5, rb, _⟩ := ranks_iff.mp hrs
    refine ⟨Nat.zero_le _, fun l hl => ?_⟩
    have s0 := same_upd (o := .lst []) (Same.refl H) hl
    have lS : (ms.map V.int).length = ms.length := List.length_map ..
    refine ⟨_, rfl, r, _, rfl, .inr (rd_t (rd_same s0 hR)), ?_⟩
    rw [show (rs.map V.int).length = rs.length from List.length_map ..]
    refine ⟨rs.length, rfl, by omega, by omega, for_range (fun j σ H' => ∃ (qs : List Addr) (rows : List (List Int)) (v5 v6 v9 : Option V), σ = [some (.ref p), some (.ref r), some (.int o), some (.int (n : Int)), some (.ref l), v5, v6, none, none, v9] ∧ Same H H' ∧ H' l = some (.lst (qs.map V.ref)) ∧
        qs.length = j ∧ rows.length = j ∧ (∀ (i : Nat) (q : Addr) (w : List Int), qs[i]? = some q → rows[i]? = some w → H' q = some (.tup (w.map V.int))) ∧ (∀ (i : Nat) (x : Int) (w : List Int), rs[i]? = some x → rows[i]? = some w → w.length = n ^ x.toNat) ∧ ∀ w ∈ rows, Lt (n : Int) w)
      ⟨[], [], none, none, none, rfl, s0, upd_same, rfl, rfl, (fun i q w e => by simp at e), (fun i x w _ e => by simp at e), fun w hw => absurd hw (by simp)⟩ ?_ ?_⟩
    · rintro j σ H' hj ⟨qs, rows, v5, v6, v9, rfl, s1, e1, lq, lr, row, sz, lt⟩
      have hj : j < rs.length := hj
      have hx : rs[((0 : Int) + (j : Int)).toNat]? = some rs[j] := by
        have e : ((0 : Int) + (j : Int)).toNat = j := by omega
        rw [e]
        exact List.getElem?_eq_getElem hj
      obtain ⟨x0, x3⟩ := rb _ (List.getElem_mem hj)
      refine ⟨_, rfl, _, rfl, _, rfl, _, _, rfl, rfl, .inl ⟨by omega, by omega⟩, (by show 3 ≤ sizeLine; decide), fun d hd => ?_⟩
      have s2 := same_upd (o := .lst [.int 1, .int (n : Int), .int ((n : Int) * (n : Int))]) s1 hd
      have e2 := same_upd (o := .lst [.int 1, .int (n : Int), .int ((n : Int) * (n : Int))]) (Same.refl H') hd _ _ e1
      have row2 : ∀ (i : Nat) (q : Addr) (w : List Int), qs[i]? = some q → rows[i]? = some w → (upd H' d (.lst [.int 1, .int (n : Int), .int ((n : Int) * (n : Int))])) q = some (.tup (w.map V.int)) := fun i q w a b => same_upd (Same.refl H') hd _ _ (row i q w a b)
      have ed : (upd H' d (.lst [.int 1, .int (n : Int), .int ((n : Int) * (n : Int))])) d = some (.lst (([1, (n : Int), (n : Int) * (n : Int)] : List Int).map V.int)) := upd_same
      generalize upd H' d (.lst [.int 1, .int (n : Int), .int ((n : Int) * (n : Int))]) = H2 at *
      refine ⟨_, rfl, _, rfl, .inr (.inl ⟨r, _, _, _, rfl, rfl, rd_t (rd_same s2 hR), atI_get? (by omega) hx, ?_⟩)⟩
      refine .inl ⟨d, _, _, _, rfl, rfl, SqL.of ed, atI_get? x0 (size_at x0 x3), ?_⟩
      have en : ((n : Int)) ^ rs[j].toNat = ((n ^ rs[j].toNat : Nat) : Int) := by rw [Int.natCast_pow]
      rw [en]
      refine ⟨_, rfl, .inl ⟨rfl, _, SqL.of e2⟩, ?_⟩
      have big : n ^ rs[j].toNat ≤ 36 := by
        have h2 : rs[j].toNat ≤ 2 := by omega
        exact Nat.le_trans (Nat.pow_le_pow_left n6 _) (Nat.pow_le_pow_right (by decide) h2)
      refine ⟨_, rfl, n ^ rs[j].toNat, rfl, by omega, by omega, fun D hD => ?_⟩
      have sD : ∀ o : HO, Same H2 (upd H2 D o) := fun o => same_upd (Same.refl _) hD
      refine lc_range (fun t H3 => ∃ u : List Int, H3 = upd H2 D (.lst (u.map V.int)) ∧ u.length = t ∧ Lt (n : Int) u) ⟨[], rfl, rfl, fun z hz => absurd hz (by simp)⟩ ?_ ?_
      · rintro t H3 ht ⟨u, rfl, d1, d2⟩
        have ht : t < n ^ rs[j].toNat := ht
        refine ⟨rfl, ?_⟩
        have pS := (sD (.lst (u.map V.int))).seq (s2.seq hS)
        refine ⟨_, rfl, _, rfl, _, _, rfl, rfl, .inl ⟨by decide, by decide⟩, _, rfl, _, _, rfl, rfl, .inl ⟨_, rfl, ?_⟩⟩
        refine ⟨_, rfl, p, _, rfl, .inl pS, ?_⟩
        rw [lS]
        obtain ⟨z, hz, z0, i0⟩ := hm.at_ (37 * ((0 : Int) + (j : Int)) + ((0 : Int) + (t : Int)))
        refine ⟨_, _, rfl, rfl, (by have := hm.ne; show 0 < (ms.length : Int); omega), .inl ⟨p, _, _, _, rfl, rfl, pS, atI_get? i0 hz, ?_⟩⟩
        refine ⟨_, _, rfl, rfl, ⟨by decide, by decide⟩, _, rfl, _, _, rfl, rfl, (by show (0 : Int) < (n : Int); omega), ?_⟩
        refine ⟨_, upd_same, ?_, u ++ [_], (by rw [upd_upd, List.map_append]; rfl), (by rw [List.length_append, d1]; rfl), fun y hy => ?_⟩
        · rw [List.length_map]
          exact Nat.lt_of_le_of_lt (by omega : u.length ≤ 36) (by decide)
        · rcases List.mem_append.mp hy with e | e
          · exact d2 y e
          · rw [List.mem_singleton.mp e]
            exact ⟨Int.emod_nonneg _ (by omega), Int.emod_lt_of_pos _ (by omega)⟩
      · rintro H3 ⟨u, rfl, d1, d2⟩
        refine ⟨D, _, rfl, .inl ⟨SqL.of upd_same, fun q hq => ?_⟩⟩
        have s3 := same_upd (o := .tup (u.map V.int)) (sD (.lst (u.map V.int))) hq
        have eq_ : (upd (upd H2 D (.lst (u.map V.int))) q (.tup (u.map V.int))) q = some (.tup (u.map V.int)) := upd_same
        generalize upd (upd H2 D (.lst (u.map V.int))) q (.tup (u.map V.int)) = H4 at *
        have e4 := s3 _ _ e2
        have ql : q ≠ l := fun z => by
          rw [z, e4] at eq_
          cases eq_
        have sl := (s2.trans s3)
        refine ⟨l, _, _, rfl, rfl, e4, ?_, qs ++ [q], rows ++ [u], _, _, _, rfl, same_set sl hl, ?_, ?_, ?_, fun i q' w a b => ?_, fun i x w a b => ?_, fun w hw => ?_⟩
        · rw [List.length_map]
          exact Nat.lt_of_le_of_lt (by omega : qs.length ≤ 5) (by decide)
        · rw [upd_same, List.map_append]
          rfl
        · rw [List.length_append, lq]
          rfl
        · rw [List.length_append, lr]
          rfl
        · rcases Nat.lt_or_ge i j with c1 | c1
          · rw [List.getElem?_append_left (by omega)] at a b
            have := s3 _ _ (row2 i q' w a b)
            rw [upd_ne (fun z => by rw [z, e4] at this; cases this)]
            exact this
          · have il := (List.getElem?_eq_some_iff.mp a).1
            rw [List.length_append] at il
            have : i = j := by
              have : [q].length = 1 := rfl
              omega
            subst this
            rw [List.getElem?_append_right (by omega), show i - qs.length = 0 by omega] at a
            rw [List.getElem?_append_right (by omega), show i - rows.length = 0 by omega] at b
            cases a
            cases b
            rw [upd_ne ql]
            exact eq_
        · rcases Nat.lt_or_ge i j with c1 | c1
          · rw [List.getElem?_append_left (by omega)] at b
            exact sz i x w a b
          · have il := (List.getElem?_eq_some_iff.mp b).1
            rw [List.length_append] at il
            have : i = j := by
              have : [u].length = 1 := rfl
              omega
            subst this
            rw [List.getElem?_append_right (by omega), show i - rows.length = 0 by omega] at b
            cases b
            rw [List.getElem?_eq_getElem hj] at a
            cases a
            exact d1
        · rcases List.mem_append.mp hw with e | e
          · exact lt w e
          · rw [List.mem_singleton.mp e]
            exact d2
    · rintro σ H' ⟨qs, rows, v5, v6, v9, rfl, s1, e1, lq, lr, row, sz, lt⟩
      refine ⟨_, rfl, n, rfl, by omega, by omega, fun D hD => ?_⟩
      have sD : ∀ o : HO, Same H' (upd H' D o) := fun o => same_upd (Same.refl _) hD
      refine lc_range (fun t H3 => ∃ u : List Int, H3 = upd H' D (.lst (u.map V.int)) ∧ u.length = t ∧ Lt o u) ⟨[], rfl, rfl, fun z hz => absurd hz (by simp)⟩ ?_ ?_
      · rintro t H3 ht ⟨u, rfl, d1, d2⟩
        have ht : t < n := ht
        refine ⟨rfl, ?_⟩
        have pS := (sD (.lst (u.map V.int))).seq (s1.seq hS)
        refine ⟨_, rfl, _, rfl, _, _, rfl, rfl, .inl ⟨by decide, by decide⟩, _, _, rfl, rfl, .inl ⟨_, rfl, ?_⟩⟩
        refine ⟨_, rfl, p, _, rfl, .inl pS, ?_⟩
        rw [lS]
        obtain ⟨z, hz, z0, i0⟩ := hm.at_ (11 + 7 * ((0 : Int) + (t : Int)))
        refine ⟨_, _, rfl, rfl, (by have := hm.ne; show 0 < (ms.length : Int); omega), .inl ⟨p, _, _, _, rfl, rfl, pS, atI_get? i0 hz, ?_⟩⟩
        refine ⟨_, _, rfl, rfl, ⟨by decide, by decide⟩, _, rfl, _, _, rfl, rfl, (by show (0 : Int) < o; omega), ?_⟩
        refine ⟨_, upd_same, ?_, u ++ [_], (by rw [upd_upd, List.map_append]; rfl), (by rw [List.length_append, d1]; rfl), fun y hy => ?_⟩
        · rw [List.length_map]
          exact Nat.lt_of_le_of_lt (by omega : u.length ≤ 6) (by decide)
        · rcases List.mem_append.mp hy with e | e
          · exact d2 y e
          · rw [List.mem_singleton.mp e]
            exact ⟨Int.emod_nonneg _ (by omega), Int.emod_lt_of_pos _ (by omega)⟩
      · rintro H3 ⟨u, rfl, d1, d2⟩
        have d1 : u.length = n := d1
        have sU := sD (.lst (u.map V.int))
        have eD : (upd H' D (.lst (u.map V.int))) D = some (.lst (u.map V.int)) := upd_same
        generalize upd H' D (.lst (u.map V.int)) = H3 at *
        refine ⟨_, rfl, _, rfl, ?_⟩
        refine ⟨_, rfl, l, _, rfl, .inl ⟨SqL.of (sU _ _ e1), fun tr htr => ?_⟩⟩
        have s4 := same_upd (o := .tup (qs.map V.ref)) sU htr
        have e4 : (upd H3 tr (.tup (qs.map V.ref))) tr = some (.tup (qs.map V.ref)) := upd_same
        have eD4 := same_upd (o := .tup (qs.map V.ref)) (Same.refl H3) htr _ _ eD
        generalize upd H3 tr (.tup (qs.map V.ref)) = H4 at *
        refine ⟨_, rfl, D, _, rfl, .inl ⟨SqL.of eD4, fun to hto => ?_⟩⟩
        have s5 := same_upd (o := .tup (u.map V.int)) (Same.refl H4) hto
        have e5 : (upd H4 to (.tup (u.map V.int))) to = some (.tup (u.map V.int)) := upd_same
        generalize upd H4 to (.tup (u.map V.int)) = H5 at *
        refine ⟨(by show 4 ≤ sizeLine; decide), fun mm hmm => ?_⟩
        have s6 := same_upd (o := .tup [.ref r, .int o, .ref tr, .ref to]) (Same.refl H5) hmm
        have sA := ((s1.trans s4).trans s5).trans s6
        refine fin ⟨rs, o, rows, u⟩ _ mm ⟨hrs, o1, o4, by show 1 ≤ u.length; omega, by show u.length ≤ 6; omega, d2, by show rows.length = rs.length; exact lr, fun i x w a b => by show w.length = u.length ^ x.toNat; rw [d1]; exact sz i x w a b, fun w hw => by show Lt (u.length : Int) w; rw [d1]; exact lt w hw⟩ rfl rfl d1 sA
          ⟨r, tr, to, qs, upd_same, rd_same sA hR, s6 _ _ (s5 _ _ e4), s6 _ _ e5, by show qs.length = rows.length; omega, fun i q w a b => s6 _ _ (s5 _ _ (s4 _ _ (row i q w a b)))⟩
end
end K63

set_option Elab.async false
set_option linter.all false
set_option maxRecDepth 100000
set_option maxHeartbeats 4000000
namespace K63
open PySem PySem.Spec PyProof.Rows L2 Mz
/-- the place of an entry -/
def placeN (n : Int) : Int → List Int → Int
  | p, [] => p
  | p, s :: ks => placeN n (p * n + s) ks
theorem placeN_app (n : Int) : ∀ (ks : List Int) (p s : Int), placeN n p (ks ++ [s]) = placeN n p ks * n + s
  | [], _, _ => rfl
  | k :: ks, p, s => placeN_app n ks (p * n + k) s
def spEntry (K : PySem.W.Frag) : Sp := fun vs H Q _ => ∃ (a : Addr) (ks : List Int) (n : Int), vs = [.ref a, .int n] ∧ SqT K H a (ks.map V.int) ∧ ks.length ≤ 2 ∧ 0 ≤ n ∧ n ≤ 1000 ∧ (∀ k ∈ ks, 0 ≤ k ∧ k ≤ 1000) ∧ Q (.int (placeN n 0 ks)) H
def spTOrder : Sp := fun vs H Q _ => ∃ (a : Addr) (ts : List Int), vs = [.ref a] ∧ H a = some (.lst (ts.map V.int)) ∧ ts.length ≤ 1000000 ∧ ∀ p, H p = none → Q (.ref p) (upd H p (.tup [.int ts.length, .ref a]))
section
variable {P : Program} {w : World} {K : PySem.W.Frag} {mg : Str → Option Value} {base : Heap} {A : Ads} {c Pt : Addr}
theorem ok_treeorder (T : Txt K mg A) : FnOk P w K mg base CX0 1 A.a_tree_order A.d_tree_order ["tree"] spTOrder := by
  refine T.F_tree_order.ok sc_tree_order (fun vs H Q E h => ?_) (fun cdv Ar outer s H vs Q E hr h => ?_)
  · obtain ⟨_, _, rfl, _⟩ := h
    rfl
  · refine ⟨_, (pss_one (ps_ret (pe_tup (pa_cons (pe_callB call_len_seq (by rfl) T.n_len PySem.boot_len (pa_cons (pv 0) pa_nil)) (pa_cons (pv 0) pa_nil))))), ?_⟩
    obtain ⟨a, ts, rfl, ha, lt, fin⟩ := h
    refine ⟨_, rfl, a, _, rfl, .inl (SqL.of ha), ?_⟩
    rw [List.length_map]
    exact ⟨_, rfl, (by show 2 ≤ sizeLine; decide), fun p hp => fin p hp⟩
end
end K63

set_option Elab.async false
set_option linter.all false
set_option maxRecDepth 100000
set_option maxHeartbeats 4000000
namespace K63
open PySem PySem.Spec PyProof.Rows L2 Mz
section
variable {P : Program} {w : World} {K : PySem.W.Frag} {mg : Str → Option Value} {base : Heap} {A : Ads} {c Pt : Addr}
theorem ok_entry (T : Txt K mg A) : FnOk P w K mg base CX0 1 A.a_entry_of A.d_entry_of ["kids", "count"] (spEntry K) := by
  refine T.F_entry_of.ok sc_entry_of (fun vs H Q E h => ?_) (fun cdv Ar outer s H vs Q E hr h => ?_)
  · obtain ⟨_, _, _, rfl, _⟩ := h
    rfl
  · refine ⟨_, (pss_cons (ps_set (i := 2) sc_entry_of.nd rfl (Or.inl rfl) pe_int)
      (pss_cons (ps_for PassesOwn.never rfl (pi_tup (pv 0)) (pg_name (i := 3) sc_entry_of.nd rfl (Or.inl rfl))
        (pss_one (ps_set (i := 2) sc_entry_of.nd rfl (Or.inl rfl) (pe_op op_add (pe_op op_mul (pv 2) (pv 1)) (pv 3)))))
      (pss_one (ps_ret (pv 2))))), ?_⟩
    obtain ⟨a, ks, n, rfl, hS, l2, n0, n1, hk, fin⟩ := h
    refine ⟨_, rfl, a, rfl, ⟨_, hS⟩, ?_⟩
    refine for_tup (K := K) (a := a) (xs := ks.map V.int) (fun i σ H' => ∃ v : Option V, σ = [some (.ref a), some (.int n), some (.int (placeN n 0 (ks.take i))), v] ∧ H' = H) ⟨none, rfl, rfl⟩ (fun i σ H' _ ⟨_, _, e⟩ => by rw [e]; exact hS) ?_ ?_
    · rintro i x σ H1 hx ⟨v, rfl, rfl⟩
      obtain ⟨s, hs, rfl⟩ := ofV hx
      refine ⟨_, rfl, _, rfl, _, _, rfl, rfl, .inr ⟨by omega, by omega⟩, _, rfl, _, _, rfl, rfl, some (.int s), ?_, rfl⟩
      rw [take_more hs, placeN_app]
      rfl
    · rintro σ H1 ⟨v, rfl, rfl⟩
      rw [List.length_map, List.take_length]
      exact ⟨_, rfl, fin⟩
end
end K63

set_option Elab.async false
set_option linter.all false
set_option maxRecDepth 100000
set_option maxHeartbeats 4000000
/-! fractions: lowest terms, // by great ints of either sign -/
namespace Mz
open PySem PySem.Spec PyProof.Rows L2
/-- // by a divisor that is not 0, below 2 ^ 9000 -/
def CDivNW (_ j : Int) : Prop := j ≠ 0 ∧ j.natAbs.log2 < 9000
theorem op_fdivNW {X : Cx} : OpR X (binaryOp .FloorDiv) (rI CDivNW fun i j => .int (i.fdiv j)) := opI fun _ _ _ _ _ _ _ hc q => floordiv_int hc.1 q (.inl (PyProof.noPylong_of_log2 hc.2))
/-- below a power of two -/
def Fits (n : Nat) (x : Int) : Prop := x.natAbs < 2 ^ n
theorem Fits.mono {n m : Nat} {x : Int} (h : Fits n x) (q : n ≤ m) : Fits m x := Nat.lt_of_lt_of_le h (Nat.pow_le_pow_right (by decide) q)
theorem Fits.le {n : Nat} {x y : Int} (h : Fits n y) (q : x.natAbs ≤ y.natAbs) : Fits n x := Nat.lt_of_le_of_lt q h
theorem Fits.mul {n m : Nat} {x y : Int} (h : Fits n x) (q : Fits m y) : Fits (n + m) (x * y) := wide_lt h q
theorem Fits.add {n : Nat} {x y : Int} (h : Fits n x) (q : Fits n y) : Fits (n + 1) (x + y) := by
  unfold Fits at *
  rw [Nat.pow_succ]
  omega
theorem Fits.sub {n : Nat} {x y : Int} (h : Fits n x) (q : Fits n y) : Fits (n + 1) (x - y) := by
  unfold Fits at *
  rw [Nat.pow_succ]
  omega
theorem Fits.neg {n : Nat} {x : Int} (h : Fits n x) : Fits n (-x) := by
  unfold Fits at *
  omega
theorem Fits.log {n : Nat} {x : Int} (h : Fits n x) (h0 : 0 < n) : x.natAbs.log2 < n := PySem.Flt.log2_lt_of h0 h
theorem Fits.cmul {n m : Nat} {x y : Int} (h : Fits n x) (q : Fits m y) (h0 : 0 < n) (h1 : 0 < m) (hs : n + m ≤ 1000000) : CMulW x y := wide_mul h q h0 h1 hs
theorem Fits.cdiv {n : Nat} {x y : Int} (h : Fits n y) (h0 : y ≠ 0) (n0 : 0 < n) (hs : n ≤ 9000) : CDivNW x y := ⟨h0, Nat.lt_of_lt_of_le (h.log n0) hs⟩
/-- x / y is t / b in lowest terms -/
structure Red (t b x y : Int) : Prop where
  pos : 1 ≤ y
  low : Nat.gcd x.natAbs y.natAbs = 1
  val : x * b = t * y
  sx : x.natAbs ≤ t.natAbs
  sy : y.natAbs ≤ b.natAbs
/-- the greatest common divisor, with the sign of the denominator -/
def comm (t b : Int) : Int := if b < 0 then -((Nat.gcd t.natAbs b.natAbs : Nat) : Int) else ((Nat.gcd t.natAbs b.natAbs : Nat) : Int)
theorem gcd_pos {t b : Int} (h : b ≠ 0) : 0 < Nat.gcd t.natAbs b.natAbs := Nat.gcd_pos_of_pos_right _ (by omega)
theorem comm_abs (t b : Int) : (comm t b).natAbs = Nat.gcd t.natAbs b.natAbs := by
  unfold comm
  split <;> omega
theorem comm_ne {t b : Int} (h : b ≠ 0) : comm t b ≠ 0 := by
  have := comm_abs t b
  have := gcd_pos (t := t) h
  omega
theorem comm_le {t b : Int} (h : b ≠ 0) : (comm t b).natAbs ≤ b.natAbs := by
  rw [comm_abs]
  exact Nat.le_of_dvd (by omega) (Nat.gcd_dvd_right _ _)
theorem red_div {t b : Int} (h : b ≠ 0) : Red t b (t.fdiv (comm t b)) (b.fdiv (comm t b)) := by
  have c0 := comm_ne (t := t) h
  have ca := comm_abs t b
  have d1 : comm t b ∣ t := Int.natAbs_dvd_natAbs.mp (by rw [ca]; exact Nat.gcd_dvd_left _ _)
  have d2 : comm t b ∣ b := Int.natAbs_dvd_natAbs.mp (by rw [ca]; exact Nat.gcd_dvd_right _ _)
  have sg : (b < 0 → comm t b < 0) ∧ (0 < b → 0 < comm t b) := by
    have := gcd_pos (t := t) h
    unfold comm
    constructor
    · intro z
      rw [if_pos z]
      omega
    · intro z
      rw [if_neg (by omega)]
      omega
  generalize comm t b = c at *
  obtain ⟨t', et⟩ := d1
  obtain ⟨b', eb⟩ := d2
  have e1 : t.fdiv c = t' := by rw [et, Int.mul_fdiv_cancel_left _ c0]
  have e2 : b.fdiv c = b' := by rw [eb, Int.mul_fdiv_cancel_left _ c0]
  rw [e1, e2]
  have ta : t.natAbs = c.natAbs * t'.natAbs := by rw [et, Int.natAbs_mul]
  have ba : b.natAbs = c.natAbs * b'.natAbs := by rw [eb, Int.natAbs_mul]
  have cp : 0 < c.natAbs := by omega
  refine ⟨?_, ?_, ?_, ?_, ?_⟩
  · rcases Int.lt_or_gt_of_ne h with z | z
    · have cn := sg.1 z
      rcases Int.lt_or_le 0 b' with w | w
      · omega
      · have := Int.mul_nonneg_of_nonpos_of_nonpos (a := c) (b := b') (by omega) w
        omega
    · have cn := sg.2 z
      rcases Int.lt_or_le 0 b' with w | w
      · omega
      · have := Int.mul_nonpos_of_nonneg_of_nonpos (a := c) (b := b') (by omega) w
        omega
  · rw [ta, ba, Nat.gcd_mul_left] at ca
    have : c.natAbs * Nat.gcd t'.natAbs b'.natAbs = c.natAbs * 1 := by omega
    exact Nat.eq_of_mul_eq_mul_left cp this
  · rw [et, eb]
    rw [← Int.mul_assoc, Int.mul_comm t' c]
  · rw [ta]
    exact Nat.le_mul_of_pos_left _ cp
  · rw [ba]
    exact Nat.le_mul_of_pos_left _ cp
/-- a pair of a numerator and a denominator -/
def Frc (H : Hp) (p : Addr) (x y : Int) : Prop := H p = some (.tup [.int x, .int y])
theorem gcd_step (a b : Nat) (h : b ≠ 0) : Nat.gcd b (a % b) = Nat.gcd a b := by
  rw [Nat.gcd_comm b, ← Nat.gcd_rec, Nat.gcd_comm]
/-- fractions in lowest terms are equal if they have the same value -/
theorem low_eq {x y z w : Int} (hy : 1 ≤ y) (hw : 1 ≤ w) (lx : Nat.gcd x.natAbs y.natAbs = 1) (lz : Nat.gcd z.natAbs w.natAbs = 1) (h : x * w = z * y) : x = z ∧ y = w := by
  have d1 : y.natAbs ∣ w.natAbs := by
    have q : y.natAbs ∣ x.natAbs * w.natAbs := by
      rw [← Int.natAbs_mul, h, Int.natAbs_mul]
      exact Nat.dvd_mul_left _ _
    exact (Nat.Coprime.dvd_of_dvd_mul_left (by rw [Nat.Coprime, Nat.gcd_comm]; exact lx) q)
  have d2 : w.natAbs ∣ y.natAbs := by
    have q : w.natAbs ∣ z.natAbs * y.natAbs := by
      rw [← Int.natAbs_mul, ← h, Int.natAbs_mul]
      exact Nat.dvd_mul_left _ _
    exact (Nat.Coprime.dvd_of_dvd_mul_left (by rw [Nat.Coprime, Nat.gcd_comm]; exact lz) q)
  have e : y.natAbs = w.natAbs := Nat.dvd_antisymm d1 d2
  have e2 : y = w := by omega
  subst e2
  exact ⟨Int.eq_of_mul_eq_mul_right (by omega) h, rfl⟩
theorem dec_nat1 (n : Nat) : decide (V.int (n : Int) = V.int 1) = decide (n = 1) := by
  rw [decide_eq_decide]
  constructor
  · intro h
    injection h
    omega
  · intro h
    rw [h]
    rfl
theorem dec_int (x y : Int) : decide (V.int x = V.int y) = decide (x = y) := by simp
end Mz

set_option Elab.async false
set_option linter.all false
set_option maxRecDepth 100000
set_option maxHeartbeats 4000000
/-! lcm, xs[k::s], things held in tuples and lists of addresses -/
namespace Mz
open PySem PySem.Spec PyProof.Rows L2
def rLcm : List V → Hp → VK → Prop := fun vs H Q => ∃ a b : Int, vs = [.int a, .int b] ∧ a.natAbs < 2 ^ 64 ∧ b.natAbs < 2 ^ 64 ∧ Q (.int ((Nat.lcm a.natAbs b.natAbs : Nat) : Int)) H
theorem cr_lcm {X : Cx} : CallR X (.builtin "math.lcm") rLcm := by
  intro pins s σ H vs us Q I r h
  obtain ⟨a, b, rfl, ha, hb, q⟩ := h
  obtain ⟨t, u, rfl⟩ := Vals.int2 r
  exact PySem.W.mc_lcm ha hb fun _ => ⟨.int _, H, I.tok _, ⟨_, rfl⟩, q⟩
/-- every s-th item from place k on -/
def tStrL (K : PySem.W.Frag) (te tl ts : TE) : TE := fun σ H Q => te σ H fun x H1 => tPart tl σ H1 fun lo H2 => tPart ts σ H2 fun st H3 => ∃ a xs, ∃ k s n : Nat, x = .ref a ∧ SqL K H1 a xs ∧ SqL K H3 a xs ∧ lo = some (k : Int) ∧ st = some (s : Int) ∧ k < s ∧ xs.length = n * s ∧
  ∀ p ys, ys.length = n → (∀ j, j < n → ys[j]? = xs[k + s * j]?) → H3 p = none → Q (.ref p) (upd H3 p (.lst ys))
theorem fm_range {α : Type} (its : Array α) (f : Nat → Nat) : ∀ n : Nat, (∀ j, j < n → f j < its.size) → ∃ zs : List α, (List.range n).filterMap (fun j => its[f j]?) = zs ∧ zs.length = n ∧ ∀ j, j < n → zs[j]? = its[f j]?
  | 0, _ => ⟨[], rfl, rfl, fun j h => by omega⟩
  | n + 1, h => by
    obtain ⟨zs, e, l, g⟩ := fm_range its f n fun j hj => h j (by omega)
    have hn := h n (by omega)
    refine ⟨zs ++ [its[f n]], ?_, by rw [List.length_append, l]; rfl, fun j hj => ?_⟩
    · rw [List.range_succ, List.filterMap_append, e]
      congr 1
      rw [List.filterMap_cons, List.filterMap_nil, Array.getElem?_eq_getElem hn]
    · by_cases c : j < n
      · rw [List.getElem?_append_left (by omega)]
        exact g j c
      · have : j = n := by omega
        subst this
        rw [List.getElem?_append_right (by omega), l, Nat.sub_self, Array.getElem?_eq_getElem hn]
        rfl
theorem pick_stride (items : Array Value) (k s n : Nat) (hk : k < s) (hl : items.size = n * s) : ∃ zs : List Value, PySem.slicePick items (some (k : Int)) none (some (s : Int)) = zs.toArray ∧ zs.length = n ∧ ∀ j, j < n → zs[j]? = items[k + s * j]? := by
  have hs : (s : Int) > 0 := by omega
  have hb : PySem.sliceBounds (some (k : Int)) none (some (s : Int)) items.size = (max 0 (min (k : Int) (items.size : Int)), (items.size : Int), (s : Int)) := by
    unfold PySem.sliceBounds
    simp only [Option.getD_some, if_neg (show ¬ (k : Int) < 0 by omega), if_pos hs]
  have inb : ∀ j, j < n → k + s * j < items.size := fun j hj => by
    rw [hl]
    have h1 : s * j + s ≤ s * n := by
      have := Nat.mul_le_mul_left s (show j + 1 ≤ n by omega)
      rw [Nat.mul_add, Nat.mul_one] at this
      exact this
    rw [Nat.mul_comm n s]
    omega
  obtain ⟨zs, e, l, g⟩ := fm_range items (fun j => k + s * j) n inb
  refine ⟨zs, ?_, l, g⟩
  unfold PySem.slicePick
  rw [hb]
  show ((sliceRange (max 0 (min (k : Int) (items.size : Int))) (items.size : Int) (s : Int)).filterMap (items[·]?)).toArray = _
  rw [← e]
  congr 1
  have hr : sliceRange (max 0 (min (k : Int) (items.size : Int))) (items.size : Int) (s : Int) = (List.range n).map fun j => k + s * j := by
    cases n with
    | zero =>
      rw [hl, Nat.zero_mul]
      unfold sliceRange
      have : ¬ (max 0 (min (k : Int) ((0 : Nat) : Int)) < ((0 : Nat) : Int)) := by omega
      simp only [if_pos hs, if_neg this]
      rfl
    | succ n =>
      have hsz : s ≤ items.size := by
        rw [hl, Nat.succ_mul]
        omega
      have hm : max 0 (min (k : Int) (items.size : Int)) = (k : Int) := by omega
      rw [hm]
      unfold sliceRange
      have hlt : (k : Int) < (items.size : Int) := by omega
      have hc : ((items.size : Int) - (k : Int) + (s : Int) - 1) / (s : Int) = ((n + 1 : Nat) : Int) := by
        rw [hl]
        have e1 : (((n + 1) * s : Nat) : Int) - (k : Int) + (s : Int) - 1 = ((s : Int) - 1 - (k : Int)) + ((n + 1 : Nat) : Int) * (s : Int) := by
          push_cast
          omega
        rw [e1, Int.add_mul_ediv_right _ _ (by omega), Int.ediv_eq_zero_of_lt (by omega) (by omega)]
        omega
      simp only [if_pos hs, if_pos hlt, hc, Int.toNat_natCast]
      refine List.map_congr_left fun j _ => ?_
      have : (k : Int) + (s : Int) * (j : Int) = ((k + s * j : Nat) : Int) := by push_cast; rfl
      rw [this, Int.toNat_natCast]
  rw [hr, List.filterMap_map]
  rfl
theorem vals_pick : ∀ {xs : List V} {us : List Value}, Vals xs us → ∀ {j : Nat} {u : Value}, us[j]? = some u → ∃ x, xs[j]? = some x ∧ RelV x u
  | [], _, .nil, j, u, h => by simp at h
  | x :: xs, _, .cons h1 h2, 0, u, h => by
    cases h
    exact ⟨x, rfl, h1⟩
  | x :: xs, _, .cons h1 h2, j + 1, u, h => vals_pick h2 (j := j) (by simpa using h)
theorem vals_choose {xs : List V} {us : List Value} (r : Vals xs us) (f : Nat → Nat) : ∀ {zs : List Value}, (∀ j, j < zs.length → zs[j]? = us[f j]?) → ∃ ys : List V, Vals ys zs ∧ ys.length = zs.length ∧ ∀ j, j < zs.length → ys[j]? = xs[f j]?
  | [], _ => ⟨[], .nil, rfl, fun j h => by simp at h⟩
  | z :: zs, h => by
    have h0 := h 0 (by simp)
    obtain ⟨x, hx, rx⟩ := vals_pick r (h0.symm.trans rfl : us[f 0]? = some z)
    obtain ⟨ys, a, b, c⟩ := vals_choose r (fun j => f (j + 1)) (zs := zs) fun j hj => by
      have := h (j + 1) (by simpa using hj)
      simpa using this
    refine ⟨x :: ys, .cons rx a, by rw [List.length_cons, b]; rfl, fun j hj => ?_⟩
    cases j with
    | zero => exact hx.symm
    | succ j => simpa using c j (by simpa using hj)
theorem pe_strideL {X : Cx} {e lo st : Expr} {te tl ts : TE} {p3 pos : Pos} (he : PE X e te) (hl : PE X lo tl) (hs : PE X st ts) : PE X (.Subscript e (.Slice (some lo) none (some st) p3) pos) (tStrL X.K te tl ts) := by
  refine ⟨fun pins s σ H Q I h => ?_⟩
  refine Subscript_ (thn (he.run pins s σ H _ I h) fun v s1 ⟨x, H1, I1, r1, q1⟩ => ?_)
  refine wpAny_Slice (thn ((po_some hl).run pins s1 σ H1 _ I1 q1) fun vl s2 ⟨l, H2, I2, pl, q2⟩ => ?_)
  refine thn (po_none.run pins s2 σ H2 (fun o H3 => o = none ∧ H3 = H2) I2 ⟨rfl, rfl⟩) fun vu s3 ⟨u, H3, I3, pu, eu, e3⟩ => ?_
  subst eu e3
  refine thn ((po_some hs).run pins s3 σ H3 _ I3 q2) fun vs s4 ⟨o, H4, I4, ps, q4⟩ => ?_
  obtain ⟨a, xs, k, sn, n, ex, hx1, hx, e1, e2, hk, hn, q⟩ := q4
  subst ex e1 e2
  cases r1
  have I5 : Inv X pins σ H4 { s4 with heap := s4.heap.push { cls := .type "slice", data := .fields #[vl, vu, vs] } } := I4.kept (t' := s4.toks) fun b ob q => Heap.get?_push_of_some _ q
  obtain ⟨its, r, ht, hz⟩ := I5.list hx
  have hlen := r.length
  show wpAny (model X.prog X.w) X.A (subscriptTail e (.Slice (some lo) none (some st) p3) (.ref a) (.ref s4.heap.objs.size)) (EP X pins σ Q) X.xe { s4 with heap := s4.heap.push { cls := .type "slice", data := .fields #[vl, vu, vs] } }
  refine tail_any (ops := [.ref a, .ref s4.heap.objs.size]) ht.isList.typeIs (PySem.slot_list_getitem.lookup) ?_ (by with_unfolding_all rfl)
  refine wpAny_getItem_list_slice ht.isList (Heap.IsSliceOf.new _ vl vu vs) pl pu ps (by simp; omega) ?_ (by rw [List.size_toArray]; omega)
  obtain ⟨zs, e5, l5, g5⟩ := pick_stride its.toArray k sn n hk (by rw [List.size_toArray]; omega)
  rw [e5]
  obtain ⟨ys, ry, ly, gy⟩ := vals_choose r (fun j => k + sn * j) (zs := zs) fun j hj => by
    rw [g5 j (by omega), List.getElem?_toArray]
  refine ⟨.ref _, _, I5.laid (t' := s4.toks) (o := .lst ys) (fun b ob q => Heap.get?_push_of_some _ q) (Nat.le_refl _) ?_, rfl, q _ ys (by omega) (fun j hj => gy j (by omega)) (I5.hok.fresh (Nat.le_refl _))⟩
  refine ⟨?_, _, 0, ry, Heap.get?_push_size _ rfl⟩
  have h1 : ys.length ≤ xs.length := by
    rw [hn]
    have := Nat.mul_le_mul_left n (show 1 ≤ sn by omega)
    omega
  exact Nat.le_trans h1 (by omega)
end Mz
namespace Mz
open PySem PySem.Spec PyProof.Rows L2
abbrev Fq := Int × Int
def FrA (H : Hp) (a : Addr) (f : Fq) : Prop := Frc H a f.1 f.2
/-- all tuples stay -/
def TS (H H' : Hp) : Prop := ∀ a xs, H a = some (.tup xs) → H' a = some (.tup xs)
theorem TS.refl (H : Hp) : TS H H := fun _ _ h => h
theorem TS.of {H H' : Hp} (s : Same H H') : TS H H' := fun a _ h => s a _ h
theorem TS.trans {H H1 H2 : Hp} (a : TS H H1) (b : TS H1 H2) : TS H H2 := fun c _ h => b c _ (a c _ h)
theorem TS.lst {H : Hp} {D : Addr} {vs : List V} {o : HO} (h : H D = some (.lst vs)) : TS H (upd H D o) := fun a xs e => (upd_ne fun z => by rw [z, h] at e; cases e).trans e
theorem TS.new {H : Hp} {D : Addr} {o : HO} (h : H D = none) : TS H (upd H D o) := fun a xs e => (upd_ne fun z => by rw [z, h] at e; cases e).trans e
def Kept {α : Type} (R : Hp → Addr → α → Prop) : Prop := ∀ H H' a x, TS H H' → R H a x → R H' a x
def Rel {α : Type} (R : Hp → Addr → α → Prop) (H : Hp) (ts : List Addr) (xs : List α) : Prop := ts.length = xs.length ∧ ∀ (i : Nat) (t : Addr) (x : α), ts[i]? = some t → xs[i]? = some x → R H t x
def TupOf {α : Type} (R : Hp → Addr → α → Prop) (H : Hp) (a : Addr) (xs : List α) : Prop := ∃ ts : List Addr, H a = some (.tup (ts.map V.ref)) ∧ Rel R H ts xs
def LstOf {α : Type} (R : Hp → Addr → α → Prop) (H : Hp) (a : Addr) (xs : List α) : Prop := ∃ ts : List Addr, H a = some (.lst (ts.map V.ref)) ∧ Rel R H ts xs
/-- a tuple or a list of them -/
def SeqOf {α : Type} (R : Hp → Addr → α → Prop) (K : PySem.W.Frag) (H : Hp) (a : Addr) (xs : List α) : Prop := ∃ ts : List Addr, (SqL K H a (ts.map V.ref) ∨ SqT K H a (ts.map V.ref)) ∧ Rel R H ts xs
theorem keptFr : Kept FrA := fun _ _ _ _ s h => s _ _ h
section
variable {α : Type} {R : Hp → Addr → α → Prop} {H H' : Hp} {a D t : Addr} {xs : List α} {x : α} {ts : List Addr}
theorem Rel.kept (k : Kept R) (s : TS H H') (h : Rel R H ts xs) : Rel R H' ts xs := ⟨h.1, fun i t x p q => k _ _ _ _ s (h.2 i t x p q)⟩
theorem Rel.nil : Rel R H [] [] := ⟨rfl, fun i t x h => by simp at h⟩
theorem Rel.push (h : Rel R H ts xs) (e : R H t x) : Rel R H (ts ++ [t]) (xs ++ [x]) := by
  refine ⟨by rw [List.length_append, List.length_append, h.1]; rfl, fun i t' x' p q => ?_⟩
  by_cases c : i < ts.length
  · rw [List.getElem?_append_left c] at p
    rw [List.getElem?_append_left (by rw [← h.1]; exact c)] at q
    exact h.2 i t' x' p q
  · rw [List.getElem?_append_right (by omega)] at p
    rw [List.getElem?_append_right (by have := h.1; omega), ← h.1] at q
    cases hh : i - ts.length with
    | zero =>
      rw [hh] at p q
      cases p
      cases q
      exact e
    | succ k =>
      rw [hh] at p
      simp at p
theorem Rel.at (h : Rel R H ts xs) {i : Nat} (e : xs[i]? = some x) : ∃ t, ts[i]? = some t ∧ R H t x := by
  have l := (List.getElem?_eq_some_iff.mp e).1
  have et := List.getElem?_eq_getElem (l := ts) (i := i) (by rw [h.1]; exact l)
  exact ⟨_, et, h.2 i _ _ et e⟩
theorem Rel.to (h : Rel R H ts xs) {i : Nat} (e : ts[i]? = some t) : ∃ x, xs[i]? = some x ∧ R H t x := by
  have l := (List.getElem?_eq_some_iff.mp e).1
  have et := List.getElem?_eq_getElem (l := xs) (i := i) (by rw [← h.1]; exact l)
  exact ⟨_, et, h.2 i _ _ e et⟩
theorem Rel.set (k : Kept R) (h : Rel R H ts xs) (e : R H t x) (i : Nat) : Rel R H (ts.set i t) (xs.set i x) := by
  refine ⟨by rw [List.length_set, List.length_set, h.1], fun j t' x' p q => ?_⟩
  by_cases c : i = j
  · subst c
    rw [List.getElem?_set] at p q
    simp only [if_true] at p q
    split at p <;> cases p
    split at q <;> cases q
    exact e
  · rw [List.getElem?_set_ne c] at p q
    exact h.2 j t' x' p q
theorem Kept.tup (k : Kept R) : Kept (TupOf R) := fun _ _ _ _ s ⟨ts, e, r⟩ => ⟨ts, s _ _ e, r.kept k s⟩
theorem TupOf.same (k : Kept R) (h : TupOf R H a xs) (s : Same H H') : TupOf R H' a xs := k.tup _ _ _ _ (TS.of s) h
theorem LstOf.same (k : Kept R) (h : LstOf R H a xs) (s : Same H H') : LstOf R H' a xs := let ⟨ts, e, r⟩ := h; ⟨ts, s _ _ e, r.kept k (TS.of s)⟩
theorem LstOf.nil (h : H D = some (.lst [])) : LstOf R H D [] := ⟨[], h, .nil⟩
theorem LstOf.push (k : Kept R) (h : LstOf R H D xs) (e : R H t x) : ∃ acc, H D = some (.lst acc) ∧ acc.length = xs.length ∧ LstOf R (upd H D (.lst (acc ++ [.ref t]))) D (xs ++ [x]) := by
  obtain ⟨ts, ed, r⟩ := h
  refine ⟨ts.map V.ref, ed, by rw [List.length_map]; exact r.1, ts ++ [t], by rw [upd_same, List.map_append]; rfl, ?_⟩
  exact (r.kept k (TS.lst ed)).push (k _ _ _ _ (TS.lst ed) e)
theorem TupOf.seq {K : PySem.W.Frag} (h : TupOf R H a xs) : SeqOf R K H a xs := let ⟨ts, e, r⟩ := h; ⟨ts, .inr (SqT.of e), r⟩
theorem LstOf.seq {K : PySem.W.Frag} (h : LstOf R H a xs) : SeqOf R K H a xs := let ⟨ts, e, r⟩ := h; ⟨ts, .inl (SqL.of e), r⟩
/-- the tuple of a list -/
theorem Rel.tuple (k : Kept R) (r : Rel R H ts xs) (hn : H t = none) : TupOf R (upd H t (.tup (ts.map V.ref))) t xs := ⟨ts, upd_same, r.kept k (TS.new hn)⟩
theorem Rel.list (k : Kept R) (r : Rel R H ts xs) (hn : H t = none) : LstOf R (upd H t (.lst (ts.map V.ref))) t xs := ⟨ts, upd_same, r.kept k (TS.new hn)⟩
end
end Mz

set_option Elab.async false
set_option linter.all false
/-! any walk, whatever a turn asks -/
namespace Mz
open PySem PySem.Spec PyProof.Rows L2
theorem it_any {J : It} {n : Nat} {G : Hp → Prop} {Y : Nat → Hp → V → Hp → Prop} (w : Walk J n G Y) {C : V → Hp → (Hp → Prop) → Prop} {E : Hp → Prop} {Hs : Hp} (Pv : Nat → Hp → Prop) (start : Pv 0 Hs) (still : ∀ i H, i ≤ n → Pv i H → G H)
    (turn : ∀ i x H H', i < n → Pv i H → Y i H x H' → C x H' (Pv (i + 1))) (done : ∀ H, Pv n H → E H) :
    ∃ W1 : Nat → Nat → Hp → Prop, (∃ m, W1 0 m Hs) ∧ ∀ j k H, W1 j k H → (J.stop j H ∧ E H) ∨ (J.go j H ∧ ∃ Nx1 : Hp → Prop, (∀ H', Nx1 H' → ∃ k', k' < k ∧ W1 (j + 1) k' H') ∧ ∀ x H', J.yld j H x H' → C x H' Nx1) := by
  refine ⟨fun j k H => k + j = n ∧ Pv j H, ⟨n, rfl, start⟩, fun j k H ⟨e, p⟩ => ?_⟩
  by_cases c : k = 0
  · have e : j = n := by omega
    subst e
    exact .inl ⟨w.stops H (still _ H (Nat.le_refl _) p), done H p⟩
  · have lt : j < n := by omega
    have gH := still j H (by omega) p
    exact .inr ⟨w.goes j H lt gH, Pv (j + 1), fun H' p' => ⟨k - 1, by omega, by omega, p'⟩, fun x H' y => turn j x H H' lt p (w.yields j H x H' lt gH y)⟩
end Mz

set_option Elab.async false
set_option linter.all false
set_option maxRecDepth 100000
set_option maxHeartbeats 4000000
namespace K63
open PySem PySem.Spec PyProof.Rows L2 Mz
theorem Rel.imp {α : Type} {R S : Hp → Addr → α → Prop} {H H' : Hp} {ts : List Addr} {xs : List α} (h : Rel R H ts xs) (f : ∀ t x, R H t x → S H' t x) : Rel S H' ts xs := ⟨h.1, fun i t x p q => f t x (h.2 i t x p q)⟩
theorem same_seq {K : PySem.W.Frag} {H H' : Hp} {a : Addr} {xs : List V} (s : Same H H') (h : SqL K H a xs) : SqL K H' a xs := by
  rcases h with (h | ⟨o, h⟩) | h
  · exact .inl (.inl (s _ _ h))
  · exact .inl (.inr ⟨o, s _ _ h⟩)
  · exact .inr h
def kidsL : Nat → List Int → List (List Int)
  | 0, _ => [[]]
  | r + 1, ss => (kidsL r ss).flatMap fun few => ss.map fun s => few ++ [s]
theorem kidsL_len (ss : List Int) (h : ss.length ≤ 6) : ∀ r, r ≤ 2 → (kidsL r ss).length ≤ 6 ^ r
  | 0, _ => Nat.le_refl _
  | r + 1, hr => by
    have ih := kidsL_len ss h r (by omega)
    show ((kidsL r ss).flatMap fun few => ss.map fun s => few ++ [s]).length ≤ _
    rw [List.length_flatMap]
    have e : ((kidsL r ss).map fun few => (ss.map fun s => few ++ [s]).length) = (kidsL r ss).map fun _ => ss.length := List.map_congr_left fun x _ => List.length_map ..
    rw [e, List.map_const', List.sum_replicate_nat, Nat.pow_succ]
    exact Nat.mul_le_mul ih h
theorem kidsL_each (ss : List Int) : ∀ r, ∀ x ∈ kidsL r ss, x.length = r
  | 0, x, h => by rw [List.mem_singleton.1 h]; rfl
  | r + 1, x, h => by
    have h : x ∈ (kidsL r ss).flatMap fun few => ss.map fun s => few ++ [s] := h
    obtain ⟨few, hf, h⟩ := List.mem_flatMap.1 h
    obtain ⟨s, _, rfl⟩ := List.mem_map.1 h
    rw [List.length_append, kidsL_each ss r few hf]
    rfl
def spKids (K : PySem.W.Frag) : Sp := fun vs H Q _ => ∃ (a : Addr) (ss : List Int) (r : Nat), vs = [.int (r : Int), .ref a] ∧ SqL K H a (ss.map V.int) ∧ ss.length ≤ 6 ∧ r ≤ 2 ∧
  ∀ (H' : Hp) (q : Addr) (ts : List Addr), Same H H' → H q = none → H' q = some (.lst (ts.map V.ref)) → Rel IT H' ts (kidsL r ss) → Q (.ref q) H'
section
variable {P : Program} {w : World} {K : PySem.W.Frag} {mg : Str → Option Value} {base : Heap} {A : Ads} {c Pt : Addr}
theorem ok_kids (T : Txt K mg A) : FnOk P w K mg base CX0 1 A.a_kids_of A.d_kids_of ["rank", "states"] (spKids K) := by
  refine T.F_kids_of.ok sc_kids_of (fun vs H Q E h => ?_) (fun cdv Ar outer s H vs Q E hr h => ?_)
  · obtain ⟨_, _, _, rfl, _⟩ := h
    rfl
  · refine ⟨_, (pss_cons (ps_set (i := 2) sc_kids_of.nd rfl (Or.inl rfl) (pe_lst (pa_cons (pe_tup pa_nil) pa_nil)))
      (pss_cons (ps_for PassesOwn.never rfl (pi_range1 (by rfl) T.n_range (pa_cons (pv 0) pa_nil)) (pg_name (i := 3) sc_kids_of.nd rfl (Or.inl rfl))
        (pss_one (ps_setLc2 (i := 2) (own := [("few", 4), ("state", 5)]) (vs1 := [5]) (g := (gName 4)) (g1 := (gName 5)) (tt := tYes) (tt1 := tYes) (wi1 := iList K (tVar 1)) rfl sc_kids_of.nd rfl rfl (sw_true rfl rfl rfl (by decide +kernel)) (pi_list (pv 2)) (blkOk_by (N := ["rank", "states", "kids", "_", "few", "state"]) (sc := defScope s_kids_of) (by decide +kernel)) (by decide) (fun _ _ _ _ _ => (pg_name (i := 4) sc_kids_of.nd rfl (Or.inl rfl))) (fun _ _ _ _ _ => pts_nil) (fun _ _ _ _ _ => (pi_list (pv 1))) (fun _ _ _ _ _ => (pg_name (i := 5) sc_kids_of.nd rfl (Or.inl rfl))) (fun _ _ _ _ _ => pts_nil) (fun _ _ _ _ _ => (pe_op (r := rCatA K) op_catA (pv 4) (pe_tup (pa_cons (pv 5) pa_nil)))))))
      (pss_one (ps_ret (pv 2))))), ?_⟩
    obtain ⟨a, ss, r, rfl, hS, l6, r2, fin⟩ := h
    refine ⟨(by show 0 ≤ sizeLine; decide), fun q0 hq0 => ?_⟩
    have s1 := same_upd (o := .tup []) (Same.refl H) hq0
    have e0 : (upd H q0 (.tup [])) q0 = some (.tup (([] : List Int).map V.int)) := upd_same
    generalize upd H q0 (.tup []) = H1 at *
    refine ⟨(by show 1 ≤ sizeLine; decide), fun q1 hq1 => ?_⟩
    have s2 := same_upd (o := .lst [.ref q0]) (Same.refl H1) hq1
    have e1 : (upd H1 q1 (.lst [.ref q0])) q1 = some (.lst ([q0].map V.ref)) := upd_same
    generalize upd H1 q1 (.lst [.ref q0]) = H2 at *
    refine ⟨_, rfl, (r : Int), rfl, by omega, by omega, ?_⟩
    refine for_range (n := ((r : Nat) : Int).toNat) (fun k σ H' => ∃ (q : Addr) (ts : List Addr) (v3 : Option V), σ = [some (.int (r : Int)), some (.ref a), some (.ref q), v3, none, none] ∧ Same H H' ∧ H q = none ∧ H' q = some (.lst (ts.map V.ref)) ∧ Rel IT H' ts (kidsL k ss)) ⟨q1, [q0], _, rfl, s1.trans s2, s1.free hq1, e1, ⟨rfl, fun i t x h1 h2 => ?_⟩⟩ ?_ ?_
    · match i, h1, h2 with
      | 0, h1, h2 =>
        cases h1
        cases h2
        exact s2 _ _ e0
    · rintro k σ H3 hk ⟨q, ts, v3, rfl, s3, fq, e3, r3⟩
      have lk := kidsL_len ss l6 k (by omega)
      have lk6 : (kidsL k ss).length ≤ 36 := Nat.le_trans lk (by
        have : k = 0 ∨ k = 1 := by omega
        rcases this with h | h <;> subst h <;> decide)
      refine ⟨_, rfl, q, rfl, ⟨_, SqL.of e3⟩, fun D hD => ?_⟩
      refine it_any walk_list (fun i H' => Same H3 H' ∧ ∃ us : List Addr, H' D = some (.lst (us.map V.ref)) ∧ Rel IT H' us (((kidsL k ss).take i).flatMap fun few => ss.map fun s => few ++ [s])) ⟨same_upd (Same.refl _) hD, [], upd_same, Rel.nil⟩ (fun i H' _ z => SqL.of (z.1 _ _ e3)) ?_ ?_
      · rintro i x H4x H4 hi ⟨s4, us, e4, r4⟩ ⟨rfl, hx⟩
        obtain ⟨t, ht, rfl⟩ := ofV hx
        obtain ⟨few, ef, hf⟩ := r3.to ht
        have li : i < 36 := by
          have := (List.getElem?_eq_some_iff.1 ef).1
          omega
        refine ⟨rfl, ?_⟩
        refine ⟨_, rfl, a, rfl, ⟨_, same_seq (s3.trans s4) hS⟩, ?_⟩
        refine it_any walk_list (fun j H' => Same H3 H' ∧ ∃ us : List Addr, H' D = some (.lst (us.map V.ref)) ∧ Rel IT H' us ((((kidsL k ss).take i).flatMap fun few => ss.map fun s => few ++ [s]) ++ (ss.take j).map fun s => few ++ [s])) ⟨s4, us, e4, by rw [List.take_zero, List.map_nil, List.append_nil]; exact r4⟩ (fun j H' _ z => same_seq (s3.trans z.1) hS) ?_ ?_
        · rintro j y H5x H5 hj ⟨s5, us5, e5, r5⟩ ⟨rfl, hy⟩
          obtain ⟨s, es, rfl⟩ := ofV hy
          refine ⟨rfl, _, rfl, _, rfl, (by show 1 ≤ sizeLine; decide), fun u hu => ?_⟩
          have s6 := same_upd (o := .tup [.int s]) (Same.refl H5) hu
          have eu : (upd H5 u (.tup [.int s])) u = some (.tup [.int s]) := upd_same
          generalize upd H5 u (.tup [.int s]) = H6 at *
          have hf6 : H6 t = some (.tup (few.map V.int)) := s6 _ _ (s5 _ _ hf)
          have lj : j < 6 := by
            have := (List.getElem?_eq_some_iff.1 es).1
            omega
          have lus : us5.length ≤ 300 := by
            rw [r5.1, List.length_append, List.length_map, List.length_take, List.length_flatMap]
            have e : (((kidsL k ss).take i).map fun few => (ss.map fun s => few ++ [s]).length) = ((kidsL k ss).take i).map fun _ => ss.length := List.map_congr_left fun x _ => List.length_map ..
            rw [e, List.map_const', List.sum_replicate_nat, List.length_take]
            have : min i (kidsL k ss).length * ss.length ≤ 36 * 6 := Nat.mul_le_mul (by omega) l6
            omega
          have put : ∀ {H7 : Hp} {v : Addr}, Same H6 H7 → H7 v = some (.tup ((few ++ [s]).map V.int)) → ∃ acc, H7 D = some (.lst acc) ∧ acc.length < sizeLine ∧ Same H3 (upd H7 D (.lst (acc ++ [.ref v]))) ∧ ∃ us : List Addr, (upd H7 D (.lst (acc ++ [.ref v]))) D = some (.lst (us.map V.ref)) ∧ Rel IT (upd H7 D (.lst (acc ++ [.ref v]))) us ((((kidsL k ss).take i).flatMap fun few => ss.map fun s => few ++ [s]) ++ (ss.take (j + 1)).map fun s => few ++ [s]) := fun {H7 v} s7 ev => by
            have e7 := s7 _ _ (s6 _ _ e5)
            have ne : ∀ {a : Addr} {w : List Int}, IT H7 a w → IT (upd H7 D (.lst (us5.map V.ref ++ [.ref v]))) a w := fun {a w} h => (upd_ne fun z => by
              have h : H7 a = some (.tup (w.map V.int)) := h
              rw [z, e7] at h
              cases h).trans h
            refine ⟨_, e7, Nat.lt_of_le_of_lt (by rw [List.length_map]; omega : _ ≤ 1000) (by decide), same_set (s5.trans (s6.trans s7)) hD, us5 ++ [v], by rw [upd_same, List.map_append]; rfl, ?_⟩
            rw [take_more es, List.map_append, ← List.append_assoc]
            exact Rel.push (Rel.imp r5 fun _ _ h => ne (s7 _ _ (s6 _ _ h))) (ne ev)
          refine ⟨t, u, _, _, rfl, rfl, SqT.of hf6, SqT.of eu, Nat.le_trans (by
            have := kidsL_each ss k few (List.mem_of_getElem? ef)
            rw [List.length_map]
            show few.length + 1 ≤ 1000
            omega) (by decide), fun z => ?_, (fun _ z => by cases z), fun _ _ p hp => ?_⟩
          · have z : few = [] := List.map_eq_nil_iff.1 z
            refine put (Same.refl _) ?_
            rw [z]
            exact eu
          · refine put (same_upd (Same.refl _) hp) ?_
            rw [upd_same, List.map_append]
            rfl
        · rintro H5 ⟨s5, us5, e5, r5⟩
          rw [List.length_map, List.take_length] at r5
          refine ⟨s5, us5, e5, ?_⟩
          rw [take_more ef, List.flatMap_append, List.flatMap_singleton]
          exact r5
      · rintro H4 ⟨s4, us, e4, r4⟩
        rw [List.length_map, r3.1, List.take_length] at r4
        exact ⟨D, us, _, rfl, s3.trans s4, s3.free hD, e4, r4⟩
    · rintro σ H3 ⟨q, ts, v3, rfl, s3, fq, e3, r3⟩
      exact ⟨_, rfl, fin H3 q ts s3 fq e3 r3⟩
end
end K63

set_option Elab.async false
set_option linter.all false
set_option maxRecDepth 100000
set_option maxHeartbeats 4000000
namespace K63
open PySem PySem.Spec PyProof.Rows L2 Mz
theorem ifDT {b : Bool} {p q : Prop} (e : b = true) (h : p) : if b = true then p else q := by rw [if_pos e]; exact h
theorem ifDF {b : Bool} {p q : Prop} (e : b = false) (h : q) : if b = true then p else q := by rw [if_neg (by rw [e]; decide)]; exact h
section
variable {P : Program} {w : World} {K : PySem.W.Frag} {mg : Str → Option Value} {base : Heap} {A : Ads} {c Pt : Addr}
theorem ok_lawkids (T : Txt K mg A) : FnOk P w K mg base CX0 1 A.a_law_kids A.d_law_kids ["rank", "states"] (spKids K) := by
  refine T.F_law_kids.ok sc_law_kids (fun vs H Q E h => ?_) (fun cdv Ar outer s H vs Q E hr h => ?_)
  · obtain ⟨_, _, _, rfl, _⟩ := h
    rfl
  · refine ⟨_, (pss_cons (ps_if (pt_cmpR op_eq (pv 0) pe_int (nomark _)) (pss_one (ps_ret (pe_lst (pa_cons (pe_tup pa_nil) pa_nil)))) pss_nil)
      (pss_cons (ps_if (pt_cmpR op_eq (pv 0) pe_int (nomark _)) (pss_one (ps_ret (pe_lc (own := [("state", 2)]) (g := (gName 2)) (tt := tYes) rfl sc_law_kids.nd (pi_list (pv 1)) (blkOk_by (N := ["rank", "states", "state", "rows", "other"]) (sc := defScope s_law_kids) (by decide +kernel)) (fun _ _ _ _ _ => (pg_name (i := 2) sc_law_kids.nd rfl (Or.inl rfl))) (fun _ _ _ _ _ => pts_nil) (fun _ _ _ _ _ => (pe_tup (pa_cons (pv 2) pa_nil)))))) pss_nil)
      (pss_cons (ps_set (i := 3) sc_law_kids.nd rfl (Or.inl rfl) (pe_lst pa_nil))
      (pss_cons (ps_for PassesOwn.never rfl (pi_list (pv 1)) (pg_name (i := 2) sc_law_kids.nd rfl (Or.inl rfl))
        (pss_one (ps_for PassesOwn.never rfl (pi_list (pv 1)) (pg_name (i := 4) sc_law_kids.nd rfl (Or.inl rfl))
            (pss_one (ps_expr (pe_bm PySem.F.plainAttrs_list PySem.F.slot_list_append PySem.F.type_list_append mt_append (pv 3) (pa_cons (pe_tup (pa_cons (pv 2) (pa_cons (pv 4) pa_nil))) pa_nil)))))))
      (pss_one (ps_ret (pv 3))))))), ?_⟩
    obtain ⟨a, ss, r, rfl, hS, l6, r2, fin⟩ := h
    refine ⟨_, rfl, rfl, _, rfl, ?_⟩
    by_cases r0 : r = 0
    · subst r0
      refine ifDT (decide_eq_true rfl) ?_
      refine ⟨(by show 0 ≤ sizeLine; decide), fun q0 hq0 => ?_⟩
      have s1 := same_upd (o := .tup []) (Same.refl H) hq0
      have e0 : (upd H q0 (.tup [])) q0 = some (.tup (([] : List Int).map V.int)) := upd_same
      generalize upd H q0 (.tup []) = H1 at *
      refine ⟨(by show 1 ≤ sizeLine; decide), fun q1 hq1 => ?_⟩
      have s2 := same_upd (o := .lst [.ref q0]) (Same.refl H1) hq1
      refine fin _ q1 [q0] (s1.trans s2) (s1.free hq1) upd_same ⟨rfl, fun i t x h1 h2 => ?_⟩
      match i, h1, h2 with
      | 0, h1, h2 =>
        cases h1
        cases h2
        exact s2 _ _ e0
    refine ifDF (decide_eq_false (fun z => r0 (by
      have : ((r : Nat) : Int) = 0 := by injection z
      omega))) ?_
    refine ⟨_, rfl, rfl, _, rfl, ?_⟩
    by_cases r1 : r = 1
    · subst r1
      refine ifDT (decide_eq_true rfl) ?_
      refine ⟨_, rfl, a, rfl, ⟨_, hS⟩, fun D hD => ?_⟩
      refine it_any walk_list (fun j H' => Same H H' ∧ ∃ us : List Addr, H' D = some (.lst (us.map V.ref)) ∧ Rel IT H' us ((ss.take j).map fun s => [s])) ⟨same_upd (Same.refl _) hD, [], upd_same, Rel.nil⟩ (fun j H' _ z => same_seq z.1 hS) ?_ ?_
      · rintro j y H5x H5 hj ⟨s5, us5, e5, r5⟩ ⟨rfl, hy⟩
        obtain ⟨s, es, rfl⟩ := ofV hy
        have lj : j < 6 := by
          have := (List.getElem?_eq_some_iff.1 es).1
          omega
        refine ⟨rfl, _, rfl, (by show 1 ≤ sizeLine; decide), fun u hu => ?_⟩
        have s6 := same_upd (o := .tup [.int s]) (Same.refl H5) hu
        have eu : (upd H5 u (.tup [.int s])) u = some (.tup (([s] : List Int).map V.int)) := upd_same
        generalize upd H5 u (.tup [.int s]) = H6 at *
        have e6 := s6 _ _ e5
        have lus : us5.length ≤ 6 := by
          rw [r5.1, List.length_map, List.length_take]
          omega
        have ne : ∀ {a : Addr} {w : List Int}, IT H6 a w → IT (upd H6 D (.lst (us5.map V.ref ++ [.ref u]))) a w := fun {a w} h => (upd_ne fun z => by
          have h : H6 a = some (.tup (w.map V.int)) := h
          rw [z, e6] at h
          cases h).trans h
        refine ⟨_, e6, Nat.lt_of_le_of_lt (by rw [List.length_map]; omega : _ ≤ 1000) (by decide), same_set (s5.trans s6) hD, us5 ++ [u], by rw [upd_same, List.map_append]; rfl, ?_⟩
        rw [take_more es, List.map_append]
        exact Rel.push (Rel.imp r5 fun _ _ h => ne (s6 _ _ h)) (ne eu)
      · rintro H5 ⟨s5, us5, e5, r5⟩
        rw [List.length_map, List.take_length] at r5
        have ek : kidsL 1 ss = ss.map fun s => [s] := by
          show [[]].flatMap _ = _
          rw [List.flatMap_singleton]
          rfl
        exact fin H5 D us5 s5 hD e5 (by rw [ek]; exact r5)
    have r2' : r = 2 := by omega
    subst r2'
    refine ifDF (by decide) ?_
    refine ⟨(by show 0 ≤ sizeLine; decide), fun D hD => ?_⟩
    have sD := same_upd (o := .lst []) (Same.refl H) hD
    have eD : (upd H D (.lst [])) D = some (.lst (([] : List Addr).map V.ref)) := upd_same
    generalize upd H D (.lst []) = H1 at *
    have lm : (ss.map V.int).length = ss.length := List.length_map ..
    refine ⟨_, rfl, a, rfl, ⟨_, same_seq sD hS⟩, ?_⟩
    refine for_it walk_list (fun i σ H' => ∃ (v2 v4 : Option V) (us : List Addr), σ = [some (.int ((2 : Nat) : Int)), some (.ref a), v2, some (.ref D), v4] ∧ Same H H' ∧ H' D = some (.lst (us.map V.ref)) ∧ Rel IT H' us ((ss.take i).flatMap fun x => ss.map fun s => [x, s])) ⟨_, _, [], rfl, sD, eD, Rel.nil⟩ (fun i σ H' _ ⟨_, _, _, _, s, _⟩ => same_seq s hS) ?_ ?_
    · rintro i x σ H2x H2 hi ⟨v2, v4, us, rfl, s2, e2, r2⟩ ⟨rfl, hx⟩
      obtain ⟨x, ex, rfl⟩ := ofV hx
      have li : i < 6 := by
        have := (List.getElem?_eq_some_iff.1 ex).1
        omega
      refine ⟨_, rfl, a, rfl, ⟨_, same_seq s2 hS⟩, ?_⟩
      refine for_it walk_list (fun j σ H' => ∃ (v4 : Option V) (us : List Addr), σ = [some (.int ((2 : Nat) : Int)), some (.ref a), some (.int x), some (.ref D), v4] ∧ Same H H' ∧ H' D = some (.lst (us.map V.ref)) ∧ Rel IT H' us (((ss.take i).flatMap fun x => ss.map fun s => [x, s]) ++ (ss.take j).map fun s => [x, s])) ⟨_, us, rfl, s2, e2, by rw [List.take_zero, List.map_nil, List.append_nil]; exact r2⟩ (fun j σ H' _ ⟨_, _, _, s, _⟩ => same_seq s hS) ?_ ?_
      · rintro j y σ H3x H3 hj ⟨v4', us3, rfl, s3, e3, r3⟩ ⟨rfl, hy⟩
        obtain ⟨y, ey, rfl⟩ := ofV hy
        have lj : j < 6 := by
          have := (List.getElem?_eq_some_iff.1 ey).1
          omega
        refine ⟨_, rfl, .inl ⟨rfl, _, SqL.of e3⟩, _, rfl, _, rfl, (by show 2 ≤ sizeLine; decide), fun u hu => ?_⟩
        have s4 := same_upd (o := .tup [.int x, .int y]) (Same.refl H3) hu
        have eu : (upd H3 u (.tup [.int x, .int y])) u = some (.tup (([x, y] : List Int).map V.int)) := upd_same
        generalize upd H3 u (.tup [.int x, .int y]) = H4 at *
        have e4 := s4 _ _ e3
        have lus : us3.length ≤ 100 := by
          rw [r3.1, List.length_append, List.length_map, List.length_take, List.length_flatMap]
          have e : ((ss.take i).map fun x => (ss.map fun s => [x, s]).length) = (ss.take i).map fun _ => ss.length := List.map_congr_left fun x _ => List.length_map ..
          rw [e, List.map_const', List.sum_replicate_nat, List.length_take]
          have : min i ss.length * ss.length ≤ 6 * 6 := Nat.mul_le_mul (by omega) l6
          omega
        have ne : ∀ {a : Addr} {w : List Int}, IT H4 a w → IT (upd H4 D (.lst (us3.map V.ref ++ [.ref u]))) a w := fun {a w} h => (upd_ne fun z => by
          have h : H4 a = some (.tup (w.map V.int)) := h
          rw [z, e4] at h
          cases h).trans h
        refine ⟨D, _, _, rfl, rfl, e4, Nat.lt_of_le_of_lt (by rw [List.length_map]; omega : _ ≤ 1000) (by decide), ?_⟩
        refine ⟨_, us3 ++ [u], rfl, same_set (s3.trans s4) hD, by rw [upd_same, List.map_append]; rfl, ?_⟩
        rw [take_more ey, List.map_append, ← List.append_assoc]
        exact Rel.push (Rel.imp r3 fun _ _ h => ne (s4 _ _ h)) (ne eu)
      · rintro σ H3 ⟨v4', us3, rfl, s3, e3, r3⟩
        rw [lm, List.take_length] at r3
        refine ⟨_, _, us3, rfl, s3, e3, ?_⟩
        rw [take_more ex, List.flatMap_append, List.flatMap_singleton]
        exact r3
    · rintro σ H2 ⟨v2, v4, us, rfl, s2, e2, r2⟩
      rw [lm, List.take_length] at r2
      have e1 : kidsL 1 ss = ss.map fun s => [s] := by
        show [[]].flatMap _ = _
        rw [List.flatMap_singleton]
        rfl
      have ek : kidsL 2 ss = ss.flatMap fun x => ss.map fun s => [x, s] := by
        show (kidsL 1 ss).flatMap _ = _
        rw [e1, List.flatMap_map]
        rfl
      exact ⟨_, rfl, fin H2 D us s2 hD e2 (by rw [ek]; exact r2)⟩
end
end K63

set_option Elab.async false
set_option linter.all false
set_option maxRecDepth 100000
set_option maxHeartbeats 4000000
/-! sorted(.., key=f): f a def of the program, its keys data of any depth; over a list or a dict with tuples as keys -/
namespace Mz
open PySem PySem.Spec PyProof.Rows L2 PySem.W PySem.Calls
/-- the order of the items by their keys -/
def byKeys (xs : List V) (kz : List PyData) : List V := ((xs.zip kz).mergeSort (dataLe false Prod.snd)).map Prod.fst
/-- what is asked once all keys are made -/
def SortEnd (K : PySem.W.Frag) (xs : List V) (W : Nat → List V → Hp → Prop) (Q : VK) : Prop :=
  ∀ ks H, W xs.length ks H → ∃ kz : List PyData, DpAll K H ks kz ∧ AllAlike kz ∧ PySem.W.Sortable kz ∧ (∀ d ∈ kz, d.depth ≤ 8) ∧ ∀ p, H p = none → Q (.ref p) (upd H p (.lst (byKeys xs kz)))
section
variable {X : Cx} {k : Nat} {f : Addr} {fd : FuncData} {ps : List Str} {sp : Sp}
theorem run_fnA {A : Around} {pins : List (Addr × Obj)} {σ : L2.St} {H : Hp} {s : Shared} {Q : VK} {us : List Value} {vs : List V} {EE : Value → Shared → Prop} (F : FnOk X.prog X.w X.K X.mg X.base C8.CX0 k f fd ps sp) (hr : Room k A) (hA : A.frames = some X.stack) (hb : Binds X.K fd ps [])
    (I : Inv X pins σ H s) (r : Vals vs us) (h : sp vs H Q C8.E0) : wpAny (model X.prog X.w) A (call (.ref f) us) (EP X pins σ Q) EE s := by
  have hl : (us ++ []).length = ps.length := by rw [List.append_nil, ← r.length]; exact F.len _ _ _ _ h
  have e0 : Env0 X.prog X.w X.K X.mg X.base A X.stack s H := ⟨hA, I.env0.mod, I.env0.bs, I.env0.bsz, I.env0.funs, I.env0.frf, I.env0.hok, I.env0.bare⟩
  have hb' := hb s us I.kIn hl
  rw [List.append_nil] at hb'
  refine wpAny_call (codeAny_mono (F.run A X.stack s H ⟨us, []⟩ us vs Q C8.E0 hr e0 hb' r h) fun r s' hq => ?_)
  cases r with
  | error e => exact (show False from hq).elim
  | ok fl =>
    cases fl with
    | ret u => exact I.after hq
    | next => exact False.elim hq
    | brk => exact False.elim hq
    | cont => exact False.elim hq
theorem vals_at2 : ∀ {xs : List V} {us : List Value}, Vals xs us → ∀ {j : Nat} {x : V} {u : Value}, xs[j]? = some x → us[j]? = some u → RelV x u
  | [], _, r, _, _, _, h, _ => by simp at h
  | x :: xs, _, r, 0, _, _, h, g => by
    cases r with
    | cons h1 h2 =>
      cases h
      cases g
      exact h1
  | x :: xs, _, r, j + 1, _, _, h, g => by
    cases r with
    | cons h1 h2 => exact vals_at2 h2 (j := j) (by simpa using h) (by simpa using g)
theorem dpAll_len {K : PySem.W.Frag} {H : Hp} : ∀ {ks : List V} {kz : List PyData}, DpAll K H ks kz → ks.length = kz.length
  | [], [], _ => rfl
  | _ :: _, _ :: _, .cons _ h => congrArg (· + 1) (dpAll_len h)
theorem readsAll_is {h : Heap} : ∀ {ds : List PyData} {vs : List Value} {as : List Addr}, ReadsAll h vs ds as → EachIs (fun v d => ∃ as, Reads h v d as) vs ds
  | [], _, _, r => by
    cases r
    exact .nil
  | d :: ds, _, _, r => by
    cases r with
    | cons h1 h2 => exact .cons ⟨_, h1⟩ (readsAll_is h2)
theorem vals_zip : ∀ {xs : List V} {vs : List Value} {kz : List PyData}, Vals xs vs → xs.length = kz.length → EachIs (fun v (x : V × PyData) => RelV x.1 v) vs (xs.zip kz)
  | [], _, _, r, _ => by
    cases r
    exact .nil
  | x :: xs, _, [], _, h => by simp at h
  | x :: xs, _, d :: kz, r, h => by
    cases r with
    | cons h1 h2 => exact .cons h1 (vals_zip h2 (by simpa using h))
theorem each_vals : ∀ {out : List Value} {zs : List (V × PyData)}, EachIs (fun v (x : V × PyData) => RelV x.1 v) out zs → Vals (zs.map Prod.fst) out
  | _, _, .nil => .nil
  | _, _, .cons h t => .cons h (each_vals t)
theorem map_snd_zip : ∀ {xs : List V} {kz : List PyData}, xs.length = kz.length → (xs.zip kz).map Prod.snd = kz
  | [], [], _ => rfl
  | x :: xs, d :: kz, h => by
    rw [List.zip_cons_cons, List.map_cons, map_snd_zip (by simpa using h)]
  | [], _ :: _, h => by simp at h
  | _ :: _, [], h => by simp at h
/-- the keys are made, one after another; then the list's own object gets the items in order -/
theorem keyI_rest {A : Around} {pins : List (Addr × Obj)} {σ : L2.St} {H0 : Hp} {s : Shared} {Q : VK} {a kS : Addr} {e1 : Nat} {vs : List Value} {xs : List V} {W : Nat → List V → Hp → Prop} {P : PySem.Fin → Shared → Prop} {EE : Value → Shared → Prop}
    (F : FnOk X.prog X.w X.K X.mg X.base C8.CX0 k f fd ps sp) (hr : Room k A) (hA : A.frames = some X.stack) (hb : Binds X.K fd ps []) (I : Inv X pins σ H0 s) (nk : s.heap.get? kS = some (seqObj "list" #[] 0)) (na : s.heap.get? a = some (seqObj "list" #[] e1)) (hka : kS ≠ a)
    (fk : FpOk X pins H0 kS) (fa : FpOk X pins H0 a) (rv : Vals xs vs) (hZ : vs.length ≤ sizeLine) (w0 : W 0 [] H0)
    (turn : ∀ (i : Nat) (x : V) (ks : List V) (H : Hp), xs[i]? = some x → W i ks H → sp [x] H (fun key H' => W (i + 1) (ks ++ [key]) H') C8.E0) (fin : SortEnd X.K xs W Q)
    (hP : ∀ s', EP X pins σ Q (.ref a) s' → P (.done (.ret .none)) s') : wpAny (model X.prog X.w) A (ksk_rest a (.ref f) false vs.toArray e1 (.ref kS)) P EE s := by
  have hlen : xs.length = vs.length := rv.length
  have pinned : ∀ {H : Hp} {h : Heap} {g : Nat} {s' : Shared} {kA : Array Value} {e : Nat}, Inv X pins σ H s' → s'.heap.get? kS = some (seqObj "list" kA e) → s'.heap.get? a = some (seqObj "list" #[] e1) → H kS = none → H a = none → Inv X (pins ++ [(kS, seqObj "list" kA e), (a, seqObj "list" #[] e1)]) σ H s' := fun J h1 h2 h3 h4 =>
    J.pins_of fun p hp => by
      rcases List.mem_append.mp hp with z | z
      · exact J.pin p (List.mem_append_right _ z)
      · rcases List.mem_cons.mp z with z | z
        · subst z
          exact ⟨h1, h3, fk.2.1, fk.2.2.1, fun v z => by cases z⟩
        · rcases List.mem_cons.mp z with z | z
          · subst z
            exact ⟨h2, h4, fa.2.1, fa.2.2.1, fun v z => by cases z⟩
          · cases z
  unfold ksk_rest
  refine wpAny_bind (wpAny_rule ?_)
  first
    | rw [List.forIn_toArray]
    | (rw [← Array.forIn_toList]; simp only [List.toList_toArray])
    | rw [← Array.forIn_toList]
  refine wpAny_bind (ksk_fold (fun i s' => ∃ H kA e ks, Inv X (pins ++ [(kS, seqObj "list" kA e), (a, seqObj "list" #[] e1)]) σ H s' ∧ Vals ks kA.toList ∧ ks.length = i ∧ W i ks H) vs 0 s
    ⟨H0, #[], 0, [], pinned (h := s.heap) (g := 0) I nk na fk.1 fa.1, .nil, rfl, w0⟩ ?step ?done)
  case step =>
    rintro j v s' hv ⟨H, kA, e, ks, J, rk, lk, wj⟩
    rw [Nat.zero_add] at wj lk ⊢
    have hj : j < vs.length := (List.getElem?_eq_some_iff.mp hv).1
    obtain ⟨x, hx⟩ : ∃ x, xs[j]? = some x := ⟨_, List.getElem?_eq_getElem (by omega)⟩
    have rx : RelV x v := vals_at2 rv hx hv
    refine wpAny_bind (wpAny_attempt (wpAny_mono (run_fnA (EE := fun _ _ => False) F hr hA hb J (.cons rx .nil) (turn j x ks H hx wj)) (fun u s2 h2 => ?_) fun _ _ hF => hF.elim))
    obtain ⟨key, H2, J2, r2, w2⟩ := h2
    have pk := J2.pin (kS, seqObj "list" kA e) (List.mem_append_right _ (List.mem_append_right _ List.mem_cons_self))
    have pa := J2.pin (a, seqObj "list" #[] e1) (List.mem_append_right _ (List.mem_append_right _ (List.mem_cons_of_mem _ List.mem_cons_self)))
    have J3 := J2.unpinned
    have nk2 : s2.heap.get? kS = some (seqObj "list" kA e) := pk.1
    have na2 : s2.heap.get? a = some (seqObj "list" #[] e1) := pa.1
    have s1 := Heap.SameBut.update s2.heap kS (Obj.mapSeq (·.push u))
    obtain ⟨c2, hc2⟩ : ∃ c2, (s2.heap.update kS (Obj.mapSeq (·.push u))).get? kS = some (seqObj "list" (kA.push u) c2) := ⟨_, get?_update_seq nk2 (·.push u)⟩
    have hz : kA.size ≤ vs.length := by
      have h1 : ks.length = kA.toList.length := rk.length
      have h2 : kA.toList.length = kA.size := Array.length_toList
      rw [← h2, ← h1, lk]
      exact Nat.le_of_lt hj
    try dsimp only
    refine wpAny_bind (listUpdate_at nk2 rfl ?_ (Nat.le_trans hz hZ) (Nat.le_trans (Nat.le_of_eq (Array.size_push ..)) (Nat.succ_le_succ (Nat.le_trans hz hZ))))
    have J4 : Inv X pins σ H2 { s2 with heap := s2.heap.update kS (Obj.mapSeq (·.push u)) } := J3.turned (it := kS) (t' := s2.toks) (fun b o hb e => (s1.2 b hb).trans e) pk.2.1 fk.2.1 fk.2.2.2.1 fk.2.2.2.2.1 fk.2.2.2.2.2
    refine wpAny_pure ⟨rfl, H2, kA.push u, c2, ks ++ [key], pinned (h := s.heap) (g := 0) J4 hc2 ((s1.2 a hka.symm).trans na2) pk.2.1 pa.2.1, ?_, by rw [List.length_append, lk]; rfl, w2⟩
    rw [Array.toList_push]
    exact rk.append (.cons r2 .nil)
  case done =>
    rintro s' ⟨H, kA, e, ks, J, rk, lk, wj⟩
    rw [Nat.zero_add, ← hlen] at wj lk
    obtain ⟨kz, dk, hal, hsk, hd, q⟩ := fin ks H wj
    have lz : ks.length = kz.length := dpAll_len dk
    have pk := J.pin (kS, seqObj "list" kA e) (List.mem_append_right _ (List.mem_append_right _ List.mem_cons_self))
    have pa := J.pin (a, seqObj "list" #[] e1) (List.mem_append_right _ (List.mem_append_right _ (List.mem_cons_of_mem _ List.mem_cons_self)))
    have J3 := J.unpinned
    have nk2 : s'.heap.get? kS = some (seqObj "list" kA e) := pk.1
    have na2 : s'.heap.get? a = some (seqObj "list" #[] e1) := pa.1
    have nHk : H kS = none := pk.2.1
    have nHa : H a = none := pa.2.1
    obtain ⟨as, ra⟩ := Dp.readsAll J3 kz ks kA.toList dk rk
    have hk := readsAll_is ra
    have hsz : kA.size = vs.length := by
      have h1 := hk.length
      rw [Array.length_toList] at h1
      omega
    refine wpAny_bind (listItems_at nk2 rfl ?_)
    refine keyH_end (κ := dataKind s'.heap kz) (h₁ := hideAll s'.heap [kS]) (fun b o hb h => of_hideAll [kS] h) (hideAll_none [kS] (by simp)) nk2 na2 hka (SortsAt.data hk hal hsk fun d h => ?_) hsz hZ fun h3 tk3 c k3 n3 => hP _ ?_
    · have h1 := hd d h
      have h2 := hr.un
      omega
    · have ko : KeyedOut false kz vs (sortVals (dataKind s'.heap kz) false kA.toList vs) := ⟨s'.heap, kA.toList, hal, rfl, hk⟩
      have ev := keyedOut_each (R := fun v (x : V × PyData) => RelV x.1 v) (bs := xs.zip kz) Prod.snd (by rw [map_snd_zip (by omega)]; exact ko) (vals_zip rv (by omega))
      have vo : Vals (byKeys xs kz) (sortVals (dataKind s'.heap kz) false kA.toList vs) := each_vals ev
      have hlo : (byKeys xs kz).length ≤ sizeLine := by
        unfold byKeys
        rw [List.length_map, List.length_mergeSort, List.length_zip]
        omega
      have kp : ∀ b o, b ≠ kS → b ≠ a → s'.heap.get? b = some o → h3.get? b = some o := fun b o h1 h2 h => k3 b o h2 (hideAll_get [kS] h (by simpa using h1))
      have nb : ∀ b u, H b = some u → b ≠ a := fun b u h z => by
        rw [z, nHa] at h
        cases h
      have nbk : ∀ b u, H b = some u → b ≠ kS := fun b u h z => by
        rw [z, nHk] at h
        cases h
      have un : Un (frs X.stack) [kS, a] H (upd H a (.lst (byKeys xs kz))) s'.heap h3 := by
        refine ⟨fun b o h1 h2 h3 h4 => kp b o (fun z => h4 (by simp [z])) (fun z => h4 (by simp [z])) h1, fun b o h1 h2 h3 h4 => ⟨o.slots, kp b o (fun z => h4 (by simp [z])) (fun z => h4 (by simp [z])) h1⟩,
          fun b o h1 h2 h4 => by rw [upd_ne (fun z => h4 (by simp [z]))]; exact h2, fun b o h1 h4 => ⟨o, kp b o (fun z => h4 (by simp [z])) (fun z => h4 (by simp [z])) h1⟩,
          fun b ys h => by rw [upd_ne (nb b _ h)]; exact h, fun b o u h => by rw [upd_ne (nb b _ h)]; exact h, fun b ps h => ⟨#[], by rw [upd_ne (nb b _ h), h]; simp⟩⟩
      have hok : HOk X.prog X.w (upd H a (.lst (byKeys xs kz))) h3 := by
        intro b u h
        by_cases hb : b = a
        · rw [hb, upd_same] at h
          cases h
          rw [hb]
          exact ⟨hlo, _, c, vo, n3⟩
        · rw [upd_ne hb] at h
          refine (J3.hok b u h).stay (fun d v hd' h' => kp d v ?_ ?_ h') (fun d h' => ?_) fun d ys h' => ?_
          · rcases hd' with z | z
            · rw [z]; exact nbk b u h
            · exact nbk d _ z
          · rcases hd' with z | z
            · rw [z]; exact hb
            · exact nb d _ z
          · rw [upd_ne (nb d _ h')]; exact h'
          · rw [upd_ne (nb d _ h')]; exact h'
      have J5 : Inv X pins σ (upd H a (.lst (byKeys xs kz))) { s' with heap := h3, toks := tk3 } := J3.call (g' := s'.gens) (d' := s'.drawn) (ch := [kS, a]) un hok J3.bare fun b hb => by
        rcases List.mem_cons.mp hb with z | z
        · subst z
          exact ⟨fk.2.2.2.1, fk.2.1, fk.2.2.2.2.1, fk.2.2.2.2.2⟩
        · have z : b = a := by simpa using z
          subst z
          exact ⟨fa.2.2.2.1, fa.2.1, fa.2.2.2.2.1, fa.2.2.2.2.2⟩
      exact ⟨.ref a, _, J5, rfl, q a nHa⟩
/-- sorted(l, key=f), l collected to xs -/
theorem sortk_run {pins : List (Addr × Obj)} {σ : L2.St} {H : Hp} {s : Shared} {Q : VK} {l : Value} {vs : List Value} {xs : List V} {W : Nat → List V → Hp → Prop}
    (F : FnOk X.prog X.w X.K X.mg X.base C8.CX0 k f fd ps sp) (hr : Room (k + 2) X.A) (hb : Binds X.K fd ps []) (I : Inv X pins σ H s) (rv : Vals xs vs) (hZ : vs.length ≤ sizeLine)
    (col : ∀ (R : List Value → Shared → Prop) (EE : Value → Shared → Prop), (∀ h' tk, (∀ b o, s.heap.get? b = some o → h'.get? b = some o) → R vs { s with heap := h', toks := tk }) → wpAny (model X.prog X.w) X.A.in1 (collect l) R EE s) (w0 : W 0 [] H)
    (turn : ∀ (i : Nat) (x : V) (ks : List V) (H : Hp), xs[i]? = some x → W i ks H → sp [x] H (fun key H' => W (i + 1) (ks ++ [key]) H') C8.E0) (fin : SortEnd X.K xs W Q) :
    wpAny (model X.prog X.w) X.A (call (.builtin "sorted") [l] [(Str.ofString "key", .ref f)]) (EP X pins σ Q) X.xe s := by
  refine call_function_entry_kw kind_sorted plain_sorted entry_sorted (ksk_s1 _ _) ?_
  unfold Builtin.«sorted»
  refine wpAny_bind (m := checkCount "sorted" 1 1 _) (wpAny_pure ?_)
  refine wpAny_bind (col _ _ fun h1 tk1 kp1 => ?_)
  have I1 : Inv X pins σ H { s with heap := h1, toks := tk1 } := I.kept kp1
  refine wpAny_bind (wpAny_newList ?_ hZ)
  have I2 : Inv X pins σ H { s with heap := h1.push (seqObj "list" vs.toArray 0), toks := tk1 } := I1.kept (t' := tk1) fun b u e => Heap.get?_push_of_some _ e
  have ho : (h1.push (seqObj "list" vs.toArray 0)).get? h1.objs.size = some (seqObj "list" vs.toArray 0) := Heap.get?_push_size _ rfl
  have ha : h1.objs.size < (h1.push (seqObj "list" vs.toArray 0)).objs.size := Heap.lt_size ho
  refine wpAny_bind (wpAny_holding (wpAny_call_entry_kw slot_list_sort ⟨_, ho, rfl⟩ entry_list_sort ?_ (ksk_l1 _ _)))
  rw [ksk_t1]
  obtain ⟨e1, ho1⟩ : ∃ e1, ((h1.push (seqObj "list" vs.toArray 0)).update h1.objs.size (Obj.mapSeq fun _ => (#[] : Array Value))).get? h1.objs.size = some (seqObj "list" #[] e1) := ⟨_, get?_update_seq ho fun _ => #[]⟩
  have hkS : (((h1.push (seqObj "list" vs.toArray 0)).update h1.objs.size (Obj.mapSeq fun _ => (#[] : Array Value))).push (seqObj "tuple" vs.toArray 0)).objs.size = h1.objs.size + 1 + 1 := by rw [size_push', Heap.size_update, size_push']
  unfold ksk_tree
  refine wpAny_bind (listItems_at ho rfl ?_)
  refine wpAny_bind (listUpdate_at ho rfl ?_ (by rw [List.size_toArray]; exact hZ) (Nat.zero_le _))
  refine wpAny_bind (seqEpoch_at ho1 rfl ?_)
  refine wpAny_bind (wpAny_newTuple ?_ (by show vs.length ≤ _; exact hZ))
  refine wpAny_bind (wpAny_newList ?_ (Nat.zero_le _))
  refine wpAny_holding ?_
  have kp : ∀ b o, h1.get? b = some o → ((((h1.push (seqObj "list" vs.toArray 0)).update h1.objs.size (Obj.mapSeq fun _ => (#[] : Array Value))).push (seqObj "tuple" vs.toArray 0)).push (seqObj "list" #[] 0)).get? b = some o := fun b o e =>
    Heap.get?_push_of_some _ (Heap.get?_push_of_some _ (((Heap.SameBut.update _ h1.objs.size (Obj.mapSeq fun _ => (#[] : Array Value))).2 b (Nat.ne_of_lt (Heap.lt_size e))).trans (Heap.get?_push_of_some _ e)))
  have I3 : Inv X pins σ H { s with heap := (((h1.push (seqObj "list" vs.toArray 0)).update h1.objs.size (Obj.mapSeq fun _ => (#[] : Array Value))).push (seqObj "tuple" vs.toArray 0)).push (seqObj "list" #[] 0), toks := tk1 } := I1.kept (t' := tk1) kp
  have hr2 : Room k X.A.in1.in1 := Room.in1 (Room.in1 hr)
  have hne : (((h1.push (seqObj "list" vs.toArray 0)).update h1.objs.size (Obj.mapSeq fun _ => (#[] : Array Value))).push (seqObj "tuple" vs.toArray 0)).objs.size ≠ h1.objs.size := by rw [hkS]; omega
  refine keyI_rest (A := X.A.in1.in1) F hr2 I.ok.frames hb I3 (Heap.get?_push_size _ rfl) (Heap.get?_push_of_some _ (Heap.get?_push_of_some _ ho1)) hne
    (I1.fpOk (by rw [hkS]; show h1.objs.size ≤ _; omega) (I1.hok.fresh (by rw [hkS]; show h1.objs.size ≤ _; omega))) (I1.fpOk (Nat.le_refl _) (I1.hok.fresh (Nat.le_refl _))) rv hZ w0 turn fin fun s' hq => ⟨.none, rfl, ?_⟩
  exact wpAny_pure ⟨_, rfl, hq⟩
/-- over a list -/
def rSortK (K : PySem.W.Frag) (f : Addr) (sp : Sp) : List V → List V → Hp → VK → Prop := fun vs zs H Q => ∃ (l : Addr) (xs : List V), vs = [.ref l] ∧ zs = [.ref f] ∧ SqL K H l xs ∧
  ∃ W : Nat → List V → Hp → Prop, W 0 [] H ∧ (∀ (i : Nat) (x : V) (ks : List V) (H : Hp), xs[i]? = some x → W i ks H → sp [x] H (fun key H' => W (i + 1) (ks ++ [key]) H') C8.E0) ∧ SortEnd K xs W Q
theorem cr_sortK (F : FnOk X.prog X.w X.K X.mg X.base C8.CX0 k f fd ps sp) (hr : Room (k + 2) X.A) (hb : Binds X.K fd ps []) : CallRK X (.builtin "sorted") [Str.ofString "key"] (rSortK X.K f sp) := by
  intro pins s σ H vs zs us ws Q I r rz h
  obtain ⟨l, xs, rfl, rfl, hs, W, w0, turn, fin⟩ := h
  obtain rfl := Vals.ref1 r
  obtain ⟨w1, rfl, e1⟩ := vals1 rz
  obtain rfl : w1 = Value.ref f := e1
  obtain ⟨its, rv, hl, hz⟩ := I.list hs
  have hZ : its.length ≤ sizeLine := by rw [← rv.length]; exact hz
  refine sortk_run F hr hb I rv hZ (fun R EE hR => collect_list hl.isList (hR _ _ fun b o e => ?_) hZ) w0 turn fin
  exact ((Heap.SameBut.update _ s.heap.objs.size (Obj.mapSeq (· ++ its.toArray))).2 b (Nat.ne_of_lt (Heap.lt_size e))).trans (Heap.get?_push_of_some _ e)
/-- over a dict whose keys are tuples -/
def rSortKD (K : PySem.W.Frag) (f : Addr) (sp : Sp) : List V → List V → Hp → VK → Prop := fun vs zs H Q => ∃ (d : Addr) (kvs : List (List Key × V)), vs = [.ref d] ∧ zs = [.ref f] ∧ Rd H d (.dT kvs) ∧
  ∀ bs : List Addr, IsKeys H kvs bs →
  ∃ W : Nat → List V → Hp → Prop, W 0 [] H ∧ (∀ (i : Nat) (x : V) (ks : List V) (H : Hp), (bs.map V.ref)[i]? = some x → W i ks H → sp [x] H (fun key H' => W (i + 1) (ks ++ [key]) H') C8.E0) ∧ SortEnd K (bs.map V.ref) W Q
theorem cr_sortKD (hc : X.calm = true) (F : FnOk X.prog X.w X.K X.mg X.base C8.CX0 k f fd ps sp) (hr : Room (k + 2) X.A) (hb : Binds X.K fd ps []) : CallRK X (.builtin "sorted") [Str.ofString "key"] (rSortKD X.K f sp) := by
  intro pins s σ H vs zs us ws Q I r rz h
  obtain ⟨d, kvs, rfl, rfl, hd, h⟩ := h
  obtain rfl := Vals.ref1 r
  obtain ⟨w1, rfl, e1⟩ := vals1 rz
  obtain rfl : w1 = Value.ref f := e1
  obtain ⟨z, hs, ks, pr, o, es, ep, ho, hx, hdt, he, hn⟩ := (show ObjOk X.prog X.w H s.heap d (.dT kvs) from hd.ok I.hok)
  have l1 : es.size = ks.length := size_of_entries he
  have l2 : kvs.length = ks.length := Paired.length pr
  obtain ⟨W, w0, turn, fin⟩ := h _ (isKeys_of pr)
  have rv : Vals ((ks.map fun x => x.2.1).map V.ref) ((ks.map fun x => x.2.1).map Value.ref) := vals_refs _
  have hZ : ((ks.map fun x => x.2.1).map Value.ref).length ≤ sizeLine := by rw [List.length_map, List.length_map]; omega
  refine sortk_run F hr hb I rv hZ (fun R EE hR => ?_) w0 turn fin
  refine kdu_collect (A := X.A.in1) (kdl_raw hs hx hdt) (I.ok.hd hc) ho (by omega) fun h' tk acc kp it => ?_
  have ea : acc.toList = (ks.map fun x => x.2.1).map Value.ref := by
    have hl : acc.toList.length = ks.length := by rw [Array.length_toList, it.1]; exact l1
    rw [List.map_map]
    apply List.ext_getElem?
    intro j
    rw [List.getElem?_map]
    cases hj : acc.toList[j]? with
    | none =>
      have h1 := List.getElem?_eq_none_iff.mp hj
      rw [List.getElem?_eq_none (by omega)]
      all_goals rfl
    | some v =>
      obtain ⟨en, hen, hv⟩ := it.2 j v (by rw [← Array.getElem?_toList]; exact hj)
      have qe := PySem.entry_at he j
      rw [hen] at qe
      cases hb : ks[j]? with
      | none =>
        rw [hb] at qe
        exact nomatch (show some en = none from qe)
      | some b =>
        rw [hb] at qe
        have e2 : en = entryOfKey (tupleKind (mixKind X.prog X.w)) b := Option.some.inj qe
        rw [hv, e2]
        all_goals rfl
  rw [ea]
  exact hR h' tk kp
end
end Mz

set_option Elab.async false
set_option linter.all false
set_option maxRecDepth 100000
set_option maxHeartbeats 4000000
/-! any(..) of a generator whose body may do anything: draining by next -/
namespace Mz
open PySem PySem.Spec PyProof.Rows L2 GenW
/-- a truth comes out: true ends all; behind false the generator goes on -/
def YB (a : Addr) (g : Nat) (Qt : Bool → Shared → Prop) : Protocol := fun n s₀ v s1 kap =>
  s1.heap.IsGen a g ∧ s1.heap.NoLimit ∧ AllBare s1.gens ∧ ((v = .bool true ∧ ∀ G : Array GenState, AllBare G → Qt true { s1 with gens := G }) ∨ (v = .bool false ∧ ∀ G : Array GenState, AllBare G → kap (.send .none) { s1 with gens := G }))
def FB (Qt : Bool → Shared → Prop) : Nat → Shared → Shared → Prop := fun _ _ s1 => AllBare s1.gens ∧ ∀ (G : Array GenState) (h' : Heap), AllBare G → (∀ b o, s1.heap.get? b = some o → h'.get? b = some o) → Qt false { s1 with gens := G, heap := h' }
def RB (Qt : Bool → Shared → Prop) : GenEnd := fun n s₀ r s1 => ((r = .ok (.ret .none) ∨ r = .ok .next) ∧ FB Qt n s₀ s1) ∨ ∃ e, r = .error e ∧ False
theorem any_drain {P : Program} {w : World} {A : Around} {R : Result → Shared → Prop} {a : Addr} {g : Nat} {Qt : Bool → Shared → Prop} (hh : A.handled = none) (hd : A.depth < recursionLimit)
    (hR : ∀ b s', Qt b s' → R (.ok (.ret (.bool b))) s') : ∀ (m : Nat) (s : Shared), s.heap.IsGen a g → s.heap.NoLimit →
      (∃ gs, s.gens[g]? = some gs ∧ gs.Goes (model P w) A.in1.in1 (RB Qt) (YB a g Qt) m (.send .none) (s.setGen g .running)) →
      codeAny (model P w) A (.builtin "any.loop" ⟨[.ref a], []⟩) R s := by
  have goes : ∀ {gs : GenState} {B : Around} {n : Nat} {r : Resume} {s : Shared}, gs.Goes (model P w) B (RB Qt) (YB a g Qt) n r s →
      gs.Goes (model P w) B (fun n s₀ r s1 => ((r = .ok (.ret .none) ∨ r = .ok .next) ∧ FB Qt n s₀ s1) ∨ ∃ e, r = .error e ∧ (fun _ _ => False) e s1) (YB a g Qt) n r s := fun h => h
  intro m
  induction m with
  | zero =>
    intro s hg hl ⟨gs, hgs, hgo⟩
    refine codeAny_builtin F.entry_any_loop ?_
    rw [Around.under_plainId F.plain_any_loop _]
    show wpAny _ A.in1 (pyNext (.ref a) >>= _) _ _ s
    refine wpAny_bind (next_genG (A := A.in1) hh hl hd hg hgs (goes hgo) (fun v s₁ gs' hbare hv => ?_) (fun s₁ hp h' hk => ?_) fun e s₁ he => ?_)
    · obtain ⟨hg1, hl1, hb1, h1 | h1⟩ := hv
      · obtain ⟨rfl, hq⟩ := h1
        refine wpAny_bind (wpAny_holding (wpAny_truthy_bool (wpAny_bind (wpAny_letGo ?_))))
        simp only [if_true]
        exact wpAny_bind (wpAny_rule (wpAny_pure (hR true _ (hq _ (allBare_setGen hb1 hbare)))))
      · exact (h1.2 #[] (fun y hy => absurd hy (by simp))).elim
    · exact wpAny_bind (wpAny_rule (wpAny_pure (hR false _ (hp.2 _ h' (allBare_setGen hp.1 rfl) hk))))
    · exact he.elim
  | succ m ih =>
    intro s hg hl ⟨gs, hgs, hgo⟩
    have hgl : g < s.gens.size := (Array.getElem?_eq_some_iff.mp hgs).1
    refine codeAny_builtin F.entry_any_loop ?_
    rw [Around.under_plainId F.plain_any_loop _]
    show wpAny _ A.in1 (pyNext (.ref a) >>= _) _ _ s
    refine wpAny_bind (wpAny_gsz (n := g + 1) hgl (next_genG (A := A.in1) hh hl hd hg hgs (goes hgo) (fun v s₁ gs' hbare hv => ?_) (fun s₁ hp h' hk => ?_) fun e s₁ he => ?_))
    · intro hsz
      obtain ⟨hg1, hl1, hb1, h1 | h1⟩ := hv
      · obtain ⟨rfl, hq⟩ := h1
        refine wpAny_bind (wpAny_holding (wpAny_truthy_bool (wpAny_bind (wpAny_letGo ?_))))
        simp only [if_true]
        exact wpAny_bind (wpAny_rule (wpAny_pure (hR true _ (hq _ (allBare_setGen hb1 hbare)))))
      · obtain ⟨rfl, hk⟩ := h1
        refine wpAny_bind (wpAny_holding (wpAny_truthy_bool (wpAny_bind (wpAny_letGo ?_))))
        simp only [Bool.false_eq_true, if_false]
        have hsz1 : g < s₁.gens.size := by
          have q : (s₁.setGen g gs').gens.size = s₁.gens.size := setGen_size _ _ _
          have hsz' : g + 1 ≤ (s₁.setGen g gs').gens.size := hsz
          omega
        refine wpAny_pure ⟨plainId_quiet F.plain_any_loop _, ih (s₁.setGen g gs') hg1 hl1 ⟨gs', setGen_at hsz1, ?_⟩⟩
        exact hk _ (allBare_setGen (s := s₁.setGen g gs') (allBare_setGen hb1 hbare) rfl)
    · intro hsz
      exact wpAny_bind (wpAny_rule (wpAny_pure (hR false _ (hp.2 _ h' (allBare_setGen hp.1 rfl) hk))))
    · exact he.elim
/-- any(g) -/
theorem call_any_gen {P : Program} {w : World} {A : Around} {a : Addr} {g m : Nat} {Qt : Bool → Shared → Prop} {gs : GenState} {s : Shared} {Q : Value → Shared → Prop} {E : Value → Shared → Prop} (hh : A.handled = none) (hd : A.depth < recursionLimit)
    (hg : s.heap.IsGen a g) (hl : s.heap.NoLimit) (hgs : s.gens[g]? = some gs) (hgo : gs.Goes (model P w) A.in1.in1 (RB Qt) (YB a g Qt) m (.send .none) (s.setGen g .running))
    (hQ : ∀ b s', Qt b s' → Q (.bool b) s') : wpAny (model P w) A (call (.builtin "any") [.ref a]) Q E s := by
  refine call_function_tree F.kind_any F.plain_any F.entry_any (F.args_any1 _) ?_
  unfold Builtin.«any»
  refine wpAny_bind (m := oneArg "any" _) (wpAny_pure ?_)
  refine wpAny_bind (wpAny_pyIter_gen hg ?_)
  exact wpAny_pure ⟨plainId_quiet F.plain_any_loop _, any_drain hh hd (fun b s' h => hQ b s' h) m s hg hl ⟨gs, hgs, hgo⟩⟩
/-- a truth comes out: false ends all; behind true the generator goes on -/
def YA (a : Addr) (g : Nat) (Qt : Bool → Shared → Prop) : Protocol := fun n s₀ v s1 kap =>
  s1.heap.IsGen a g ∧ s1.heap.NoLimit ∧ AllBare s1.gens ∧ ((v = .bool false ∧ ∀ G : Array GenState, AllBare G → Qt false { s1 with gens := G }) ∨ (v = .bool true ∧ ∀ G : Array GenState, AllBare G → kap (.send .none) { s1 with gens := G }))
def FA (Qt : Bool → Shared → Prop) : Nat → Shared → Shared → Prop := fun _ _ s1 => AllBare s1.gens ∧ ∀ (G : Array GenState) (h' : Heap), AllBare G → (∀ b o, s1.heap.get? b = some o → h'.get? b = some o) → Qt true { s1 with gens := G, heap := h' }
def RA (Qt : Bool → Shared → Prop) : GenEnd := fun n s₀ r s1 => ((r = .ok (.ret .none) ∨ r = .ok .next) ∧ FA Qt n s₀ s1) ∨ ∃ e, r = .error e ∧ False
theorem all_drain {P : Program} {w : World} {A : Around} {R : Result → Shared → Prop} {a : Addr} {g : Nat} {Qt : Bool → Shared → Prop} (hh : A.handled = none) (hd : A.depth < recursionLimit)
    (hR : ∀ b s', Qt b s' → R (.ok (.ret (.bool b))) s') : ∀ (m : Nat) (s : Shared), s.heap.IsGen a g → s.heap.NoLimit →
      (∃ gs, s.gens[g]? = some gs ∧ gs.Goes (model P w) A.in1.in1 (RA Qt) (YA a g Qt) m (.send .none) (s.setGen g .running)) →
      codeAny (model P w) A (.builtin "all.loop" ⟨[.ref a], []⟩) R s := by
  have goes : ∀ {gs : GenState} {B : Around} {n : Nat} {r : Resume} {s : Shared}, gs.Goes (model P w) B (RA Qt) (YA a g Qt) n r s →
      gs.Goes (model P w) B (fun n s₀ r s1 => ((r = .ok (.ret .none) ∨ r = .ok .next) ∧ FA Qt n s₀ s1) ∨ ∃ e, r = .error e ∧ (fun _ _ => False) e s1) (YA a g Qt) n r s := fun h => h
  intro m
  induction m with
  | zero =>
    intro s hg hl ⟨gs, hgs, hgo⟩
    refine codeAny_builtin F.entry_all_loop ?_
    rw [Around.under_plainId F.plain_all_loop _]
    show wpAny _ A.in1 (pyNext (.ref a) >>= _) _ _ s
    refine wpAny_bind (next_genG (A := A.in1) hh hl hd hg hgs (goes hgo) (fun v s₁ gs' hbare hv => ?_) (fun s₁ hp h' hk => ?_) fun e s₁ he => ?_)
    · obtain ⟨hg1, hl1, hb1, h1 | h1⟩ := hv
      · obtain ⟨rfl, hq⟩ := h1
        refine wpAny_bind (wpAny_holding (wpAny_truthy_bool (wpAny_bind (wpAny_letGo ?_))))
        simp only [Bool.false_eq_true, if_false]
        exact wpAny_bind (wpAny_rule (wpAny_pure (hR false _ (hq _ (allBare_setGen hb1 hbare)))))
      · exact (h1.2 #[] (fun y hy => absurd hy (by simp))).elim
    · exact wpAny_bind (wpAny_rule (wpAny_pure (hR true _ (hp.2 _ h' (allBare_setGen hp.1 rfl) hk))))
    · exact he.elim
  | succ m ih =>
    intro s hg hl ⟨gs, hgs, hgo⟩
    have hgl : g < s.gens.size := (Array.getElem?_eq_some_iff.mp hgs).1
    refine codeAny_builtin F.entry_all_loop ?_
    rw [Around.under_plainId F.plain_all_loop _]
    show wpAny _ A.in1 (pyNext (.ref a) >>= _) _ _ s
    refine wpAny_bind (wpAny_gsz (n := g + 1) hgl (next_genG (A := A.in1) hh hl hd hg hgs (goes hgo) (fun v s₁ gs' hbare hv => ?_) (fun s₁ hp h' hk => ?_) fun e s₁ he => ?_))
    · intro hsz
      obtain ⟨hg1, hl1, hb1, h1 | h1⟩ := hv
      · obtain ⟨rfl, hq⟩ := h1
        refine wpAny_bind (wpAny_holding (wpAny_truthy_bool (wpAny_bind (wpAny_letGo ?_))))
        simp only [Bool.false_eq_true, if_false]
        exact wpAny_bind (wpAny_rule (wpAny_pure (hR false _ (hq _ (allBare_setGen hb1 hbare)))))
      · obtain ⟨rfl, hk⟩ := h1
        refine wpAny_bind (wpAny_holding (wpAny_truthy_bool (wpAny_bind (wpAny_letGo ?_))))
        simp only [if_true]
        have hsz1 : g < s₁.gens.size := by
          have q : (s₁.setGen g gs').gens.size = s₁.gens.size := setGen_size _ _ _
          have hsz' : g + 1 ≤ (s₁.setGen g gs').gens.size := hsz
          omega
        refine wpAny_pure ⟨plainId_quiet F.plain_all_loop _, ih (s₁.setGen g gs') hg1 hl1 ⟨gs', setGen_at hsz1, ?_⟩⟩
        exact hk _ (allBare_setGen (s := s₁.setGen g gs') (allBare_setGen hb1 hbare) rfl)
    · intro hsz
      exact wpAny_bind (wpAny_rule (wpAny_pure (hR true _ (hp.2 _ h' (allBare_setGen hp.1 rfl) hk))))
    · exact he.elim
/-- all(g) -/
theorem call_all_gen {P : Program} {w : World} {A : Around} {a : Addr} {g m : Nat} {Qt : Bool → Shared → Prop} {gs : GenState} {s : Shared} {Q : Value → Shared → Prop} {E : Value → Shared → Prop} (hh : A.handled = none) (hd : A.depth < recursionLimit)
    (hg : s.heap.IsGen a g) (hl : s.heap.NoLimit) (hgs : s.gens[g]? = some gs) (hgo : gs.Goes (model P w) A.in1.in1 (RA Qt) (YA a g Qt) m (.send .none) (s.setGen g .running))
    (hQ : ∀ b s', Qt b s' → Q (.bool b) s') : wpAny (model P w) A (call (.builtin "all") [.ref a]) Q E s := by
  refine call_function_tree F.kind_all F.plain_all F.entry_all (F.args_all1 _) ?_
  unfold Builtin.«all»
  refine wpAny_bind (m := oneArg "all" _) (wpAny_pure ?_)
  refine wpAny_bind (wpAny_pyIter_gen hg ?_)
  exact wpAny_pure ⟨plainId_quiet F.plain_all_loop _, all_drain hh hd (fun b s' h => hQ b s' h) m s hg hl ⟨gs, hgs, hgo⟩⟩
end Mz

set_option Elab.async false
set_option linter.all false
set_option maxRecDepth 100000
set_option maxHeartbeats 4000000
/-! a generator expression's own code, its element anything: an invariant J goes from turn to turn -/
namespace Mz
open PySem PySem.Spec PyProof.Rows L2 GenW
section
variable {prog : Program} {w : World} {A : Around}
theorem seg_genI {elt iter tg : Expr} {scope : Scope} {pos : Pos} {I : Addr} {n₀ : Nat} {cenv : Env} {R : GenEnd} {Y : Protocol}
    (J : Nat → Shared → Prop) (YY : Nat → Value → Shared → Prop) (D : Shared → Prop) (hco : cenv.scope.isCoroutine = false)
    (done : ∀ s, J n₀ s → wpAny (model prog w) (A.over (.compLoop (.GeneratorExp elt [⟨tg, iter, [], 0⟩] scope pos) 0 (.ref I) .none cenv) []) (pyNext (.ref I)) (fun r s' => r = none ∧ D s') (fun _ _ => False) s)
    (item : ∀ i s, i < n₀ → J i s → wpAny (model prog w) (A.over (.compLoop (.GeneratorExp elt [⟨tg, iter, [], 0⟩] scope pos) 0 (.ref I) .none cenv) []) (pyNext (.ref I)) (fun r s0 => ∃ v, r = some v ∧ wpAny (model prog w) (A.over (.compLoop (.GeneratorExp elt [⟨tg, iter, [], 0⟩] scope pos) 0 (.ref I) .none cenv) []) (letOwnedTupleGo tg (.ref I) v) (fun _ s1 =>
      wpAny (model prog w) (A.over (.compLoop (.GeneratorExp elt [⟨tg, iter, [], 0⟩] scope pos) 0 (.ref I) .none cenv) []) (assign tg cenv v) (fun _ s2 =>
        wpAny (model prog w) (A.over (.compLoop (.GeneratorExp elt [⟨tg, iter, [], 0⟩] scope pos) 0 (.ref I) .none cenv) []) (eval elt cenv) (fun y s3 => YY i y s3) (fun _ _ => False) s2) (fun _ _ => False) s1) (fun _ _ => False) s0) (fun _ _ => False) s)
    (hR : ∀ n s₀ s, D s → R n s₀ (.ok .next) s)
    (hY : ∀ n s₀ i y s, i < n₀ → YY i y s → ∀ kap : Resume → Shared → Prop, (∀ s'', J (i + 1) s'' → kap (.send .none) s'') → Y n s₀ y s kap) :
    ∀ (k i : Nat) (s₀ s : Shared), n₀ - i = k → i ≤ n₀ → J i s →
      Seg (model prog w) A R Y k s₀
        (.compLoop (.GeneratorExp elt [⟨tg, iter, [], 0⟩] scope pos) 0 (.ref I) .none cenv)
        ((model prog w).den (.compLoop (.GeneratorExp elt [⟨tg, iter, [], 0⟩] scope pos) 0 (.ref I) .none cenv)) [] s := by
  intro k
  induction k with
  | zero =>
    intro i s₀ s hk hi hJ
    have hin : i = n₀ := by omega
    subst hin
    show Seg _ A _ _ _ s₀ _ ((compTurn (.GeneratorExp elt [⟨tg, iter, [], 0⟩] scope pos) 0 (.ref I) .none cenv).onRaise (leaving cenv)) [] s
    rw [compTurn_gen, Sem.onRaise_eq_wrap]
    refine seg_bind_wrap (wpAny_standAt ?_)
    refine seg_bind_wrap (wpAny_mono (done s hJ) (fun r s' h' => ?_) fun _ _ e => e.elim)
    obtain ⟨rfl, hD⟩ := h'
    exact seg_end (.ok .next) (hR _ _ _ hD)
  | succ k ih =>
    intro i s₀ s hk hi hJ
    have hlt : i < n₀ := by omega
    show Seg _ A _ _ _ s₀ _ ((compTurn (.GeneratorExp elt [⟨tg, iter, [], 0⟩] scope pos) 0 (.ref I) .none cenv).onRaise (leaving cenv)) [] s
    rw [compTurn_gen, Sem.onRaise_eq_wrap]
    refine seg_bind_wrap (wpAny_standAt ?_)
    refine seg_bind_wrap (wpAny_mono (item i s hlt hJ) (fun r s1 h1 => ?_) fun _ _ e => e.elim)
    obtain ⟨v, rfl, h1⟩ := h1
    refine seg_bind_wrap (wpAny_mono h1 (fun _ s1' h1 => ?_) fun _ _ e => e.elim)
    refine seg_bind_wrap (wpAny_mono h1 (fun _ s2 h2 => ?_) fun _ _ e => e.elim)
    refine seg_bind_wrap (wpAny_of_eq (a := true) (by simp only [List.forIn_nil]) ?_)
    simp only [if_true]
    have hy : ∀ v, yieldOut cenv v = yieldValue v := fun v => by simp only [yieldOut, hco, Bool.false_eq_true, if_false]
    simp only [hy]
    rw [Sem.bind_eq_wrap', Sem.bind_eq_wrap', Sem.wrap_wrap, Sem.wrap_wrap]
    refine seg_wrap (wpAny_mono h2 (fun y s3 h3 => ?_) fun _ _ e => e.elim)
    refine seg_at (seg_yield rfl rfl rfl (hY _ _ i y s3 hlt h3 _ fun s'' hJ' => ?_))
    exact seg_again rfl (ih (i + 1) s'' s'' (by omega) hlt hJ')

theorem seg_genStartI {elt iter tg : Expr} {scope : Scope} {pos : Pos} {I : Addr} {n₀ : Nat} {cenv : Env} {R : GenEnd} {Y : Protocol}
    (J : Nat → Shared → Prop) (YY : Nat → Value → Shared → Prop) (D : Shared → Prop) (hco : cenv.scope.isCoroutine = false)
    (done : ∀ s, J n₀ s → wpAny (model prog w) (A.over (.compLoop (.GeneratorExp elt [⟨tg, iter, [], 0⟩] scope pos) 0 (.ref I) .none cenv) []) (pyNext (.ref I)) (fun r s' => r = none ∧ D s') (fun _ _ => False) s)
    (item : ∀ i s, i < n₀ → J i s → wpAny (model prog w) (A.over (.compLoop (.GeneratorExp elt [⟨tg, iter, [], 0⟩] scope pos) 0 (.ref I) .none cenv) []) (pyNext (.ref I)) (fun r s0 => ∃ v, r = some v ∧ wpAny (model prog w) (A.over (.compLoop (.GeneratorExp elt [⟨tg, iter, [], 0⟩] scope pos) 0 (.ref I) .none cenv) []) (letOwnedTupleGo tg (.ref I) v) (fun _ s1 =>
      wpAny (model prog w) (A.over (.compLoop (.GeneratorExp elt [⟨tg, iter, [], 0⟩] scope pos) 0 (.ref I) .none cenv) []) (assign tg cenv v) (fun _ s2 =>
        wpAny (model prog w) (A.over (.compLoop (.GeneratorExp elt [⟨tg, iter, [], 0⟩] scope pos) 0 (.ref I) .none cenv) []) (eval elt cenv) (fun y s3 => YY i y s3) (fun _ _ => False) s2) (fun _ _ => False) s1) (fun _ _ => False) s0) (fun _ _ => False) s)
    (self : ∀ s, J 0 s → ∀ (Q : Value → Shared → Prop) (E : Value → Shared → Prop), Q (.ref I) s → wpAny (model prog w) (A.over (.compStart (.GeneratorExp elt [⟨tg, iter, [], 0⟩] scope pos) 0 (.ref I) .none cenv) []) (pyIter (.ref I)) Q E s)
    (hR : ∀ n s₀ s, D s → R n s₀ (.ok .next) s)
    (hY : ∀ n s₀ i y s, i < n₀ → YY i y s → ∀ kap : Resume → Shared → Prop, (∀ s'', J (i + 1) s'' → kap (.send .none) s'') → Y n s₀ y s kap)
    (s₀ s : Shared) (hJ : J 0 s) :
    Seg (model prog w) A R Y n₀ s₀
      (.compStart (.GeneratorExp elt [⟨tg, iter, [], 0⟩] scope pos) 0 (.ref I) .none cenv)
      ((model prog w).den (.compStart (.GeneratorExp elt [⟨tg, iter, [], 0⟩] scope pos) 0 (.ref I) .none cenv)) [] s := by
  have loop := seg_genI J YY D hco done item hR hY n₀ 0 s₀ s (Nat.sub_zero _) (Nat.zero_le _) hJ
  show Seg _ A _ _ _ s₀ _ ((compStart (.GeneratorExp elt [⟨tg, iter, [], 0⟩] scope pos) 0 (.ref I) .none cenv).onRaise (leaving cenv)) [] s
  unfold compStart
  rw [Sem.onRaise_eq_wrap]
  show Seg _ A _ _ _ s₀ _ ((ask >>= _).wrap _ _ _ _) [] s
  refine seg_bind_wrap (wpAny_askSetting ?_)
  split
  · exact seg_again rfl loop
  · first
      | exact seg_bind_wrap (wpAny_rule (seg_bind_wrap (wpAny_standAt (seg_bind_wrap (self s hJ _ _ (seg_again rfl loop))))))
      | (refine seg_bind_wrap (wpAny_rule ?_); show Seg _ A _ _ _ s₀ _ ((standAt iter.pos >>= _).wrap _ _ _ _) [] s; exact seg_bind_wrap (wpAny_standAt (seg_bind_wrap (self s hJ _ _ (seg_again rfl loop)))))
end
end Mz

set_option Elab.async false
set_option linter.all false
set_option maxRecDepth 100000
set_option maxHeartbeats 4000000
/-! the context of a generator expression's own scope -/
namespace Mz
open PySem PySem.Spec PyProof.Rows L2 GenW
/-- the generator expression's scope: «.0», its name x, captured names -/
structure GenF (sc scope : Scope) (x : Str) : Prop where
  kind : scope.kind = .function
  co : scope.isCoroutine = false
  cell : ∀ y ∈ scope.names, y.2 ≠ .cell
  dot : scope.names.lookup (".0" : Str) = some NameKind.local
  loc : scope.names.lookup x = some .local
  free : ∀ y ∈ scope.names, y.2 = .free → sc.names.lookup y.1 = some .cell ∨ sc.names.lookup y.1 = some .free
theorem GenF.has {X : Cx} {scope : Scope} {x : Str} (L : GenF X.env.scope scope x) (ok : X.Ok) : ∀ y ∈ scope.names, y.2 = .free → ∃ c, X.env.cells.lookup y.1 = some c := fun y hy e => by
  rcases L.free y hy e with k | k
  · exact ok.has _ (.inl k)
  · exact ok.has _ (.inr k)
abbrev gEnv (X : Cx) (scope : Scope) (C : Addr) (code : Value) : Env := genEnv scope (cloFrom X.env.cells scope.names []) C code builtinsNs X.env
/-- the context of its element, made at s -/
def genCx (X : Cx) (A : Around) (scope : Scope) (s : Shared) (H : Hp) (code : Value) (N' : List Str) (fp : List Addr) : Cx where
  prog := X.prog
  w := X.w
  K := X.K
  mg := X.mg
  base := X.base
  A := A
  N := N'
  s_0 := s
  H_0 := H
  env := gEnv X scope s.heap.objs.size code
  outer := X.stack
  stack := gEnv X scope s.heap.objs.size code :: X.stack
  ex := fp
  fn := fun _ => false
  calm := true
  pn := []
  xe := fun _ _ => False
section
variable {X : Cx} {pins : List (Addr × Obj)} {σ : L2.St} {H : Hp} {s s5 : Shared}
theorem gen_start {A : Around} {scope : Scope} {x : Str} {code it : Value} {N' : List Str} {fp : List Addr} {σ' : L2.St} (hfp : ∀ b ∈ fp, FpOk X pins H b ∧ b < s.heap.objs.size) (I : Inv X pins σ H s) (L : GenF X.env.scope scope x) (hd : A.handled = none) (hfr : A.frames = some (gEnv X scope s.heap.objs.size code :: X.stack))
    (hl : σ'.length = N'.length) (hσ : ∀ (i : Nat) (y : Str) (v : V), N'[i]? = some y → σ'[i]? = some (some v) → (scope.names.lookup y = some .local → False) ∧ (scope.names.lookup y = some .free → ∃ j : Nat, X.N[j]? = some y ∧ σ[j]? = some (some v)))
    (hns : s5.heap.Ns s.heap.objs.size fun y => if y = ".0" then some it else none) (kp : ∀ b o, s.heap.get? b = some o → s5.heap.get? b = some o) (hos : s5.os = s.os) (hb : AllBare s5.gens) :
    Inv (genCx X A scope s H code N' fp) [] σ' H s5 := by
  have hfree := L.has I.ok
  have e0 := I.env0
  have cm : ∀ {y c}, (cloFrom X.env.cells scope.names []).lookup y = some c → X.env.cells.lookup y = some c := fun {y c} e => by
    rcases cloFrom_mem (PySem.mem_of_lookup e) with hm | ⟨h1, h2⟩
    · cases hm
    · obtain ⟨c1, hc⟩ := hfree _ h1 rfl
      have hc : X.env.cells.lookup y = some c1 := hc
      have e2 : c = c1 := by
        rw [h2, hc] <;> rfl
      rw [e2]
      exact hc
  have look : ∀ {y}, scope.names.lookup y = some .free → ∃ c, (cloFrom X.env.cells scope.names []).lookup y = some c := fun {y} hl => by
    have hy : (y, NameKind.free) ∈ scope.names := PySem.mem_of_lookup hl
    exact mem_lookup (cloFrom_has (cells := X.env.cells) (acc := []) hy)
  have cellK : ∀ {c : Addr} {v : Option Value}, s.heap.IsCell c v → s5.heap.IsCell c v := fun {c v} ⟨o, ho, hd⟩ => ⟨_, kp _ _ ho, hd⟩
  refine ⟨⟨e0.mod, L.kind, I.ok.glob, rfl, Nat.le_refl _, fun y z c e1 e2 => I.ok.inj y z c (cm e1) (cm e2), fun y hy => ?_, fun y c z _ => ?_, fun _ => hd, hfr, .inr ⟨rfl, rfl⟩, fun b z => ?_, e0.bs, e0.bsz, fun b o e z => ?_,
      fun b z hm => ?_, e0.funs, e0.frf⟩,
    hos, hb, Un.kept kp, ⟨_, hns, fun i y v e1 e2 e3 => ?_⟩, fun y c e => ?_, I.hok.fresh (Nat.le_refl _), fun y c e => ?_, fun q hq => absurd (show q ∈ ([] : List (Addr × Obj)) ++ [] from hq) (by simp), I.hok.kept kp, hl⟩
  · have hy : scope.names.lookup y = some .cell ∨ scope.names.lookup y = some .free := hy
    rcases hy with hy | hy
    · exact absurd rfl (L.cell _ (PySem.mem_of_lookup hy))
    · exact look hy
  · have z : false = true := z
    cases z
  · obtain ⟨f, hlt⟩ := hfp b z
    exact ⟨Nat.ne_of_lt hlt, fun y c e => f.2.2.2.2.1 y c (cm e)⟩
  · obtain ⟨⟨_, _, _, f3, _⟩, _⟩ := hfp b z
    rcases f3 with f3 | f3
    · exact I.ok.noex b o e f3
    · exact absurd (Nat.lt_of_lt_of_le (Heap.lt_size e) I.ok.bsz) (Nat.not_lt.mpr f3)
  · obtain ⟨⟨_, f1, f2, _⟩, _⟩ := hfp b z
    rcases List.mem_cons.mp (I.stkSub b hm) with q | q
    · exact f1 q
    · exact f2 q
  · have e3 : Vis scope y := e3
    rcases e3 with k | k | k
    · exact ((hσ i y v e1 e2).1 k).elim
    · exact absurd rfl (L.cell _ (PySem.mem_of_lookup k))
    · obtain ⟨j, f1, f2⟩ := (hσ i y v e1 e2).2 k
      obtain ⟨m, hn, hl⟩ := I.loc
      have hvis : Vis X.env.scope y := (L.free _ (PySem.mem_of_lookup k) rfl).elim (fun k => .inr (.inl k)) (fun k => .inr (.inr k))
      obtain ⟨w', r, q⟩ := hl j y v f1 f2 hvis
      obtain ⟨c2, h2⟩ := look k
      refine ⟨w', r, .inr ⟨.inr k, c2, h2, ?_⟩⟩
      have c1 := cm h2
      rcases q with ⟨k', _⟩ | ⟨_, c3, e', z⟩
      · have k' : X.env.scope.names.lookup y = some .local := k'
        rcases L.free _ (PySem.mem_of_lookup k) rfl with k2 | k2 <;> rw [show X.env.scope.names.lookup y = _ from k2] at k' <;> cases k'
      · have e4 : some c2 = some c3 := c1.symm.trans e'
        cases e4
        exact cellK z
  · obtain ⟨v, q⟩ := I.cell y c (cm e)
    exact ⟨v, cellK q⟩
  · exact I.freeC y c (cm e)
end
end Mz

set_option Elab.async false
set_option linter.all false
set_option maxRecDepth 100000
set_option maxHeartbeats 4000000
/-! a lambda with one parameter, its object known; called over an invariant -/
namespace Mz
open PySem PySem.Spec PyProof.Rows L2 LamX
/-- the lambda's scope: its parameter x, captured names -/
structure LamF (sc scope : Scope) (x : Str) : Prop where
  kind : scope.kind = .function
  co : scope.isCoroutine = false
  gen : scope.isGenerator = false
  cell : ∀ y ∈ scope.names, y.2 ≠ .cell
  own : ∀ y ∈ scope.names, y.2 = .local → y.1 = x
  loc : scope.names.lookup x = some .local
  free : ∀ y ∈ scope.names, y.2 = .free → sc.names.lookup y.1 = some .cell ∨ sc.names.lookup y.1 = some .free
def lamFB (sc scope : Scope) (x : Str) : Bool :=
  decide (scope.kind = .function) && !scope.isCoroutine && !scope.isGenerator && (scope.names.all fun y => !decide (y.2 = .cell) && (!decide (y.2 = .local) || decide (y.1 = x)) && (!decide (y.2 = .free) || decide (sc.names.lookup y.1 = some .cell) || decide (sc.names.lookup y.1 = some .free))) && decide (scope.names.lookup x = some .local)
theorem lamF_by {sc scope : Scope} {x : Str} (h : lamFB sc scope x = true) : LamF sc scope x := by
  unfold lamFB at h
  simp only [Bool.and_eq_true, Bool.or_eq_true, Bool.not_eq_true', decide_eq_true_eq, decide_eq_false_iff_not, List.all_eq_true] at h
  obtain ⟨⟨⟨⟨h1, h2⟩, h3⟩, h4⟩, h5⟩ := h
  refine ⟨h1, h2, h3, fun y hy => (h4 y hy).1.1, fun y hy e => ?_, h5, fun y hy e => ?_⟩
  · rcases (h4 y hy).1.2 with z | z
    · exact absurd e z
    · exact z
  · rcases (h4 y hy).2 with (z | z) | z
    · exact absurd e z
    · exact .inl z
    · exact .inr z
theorem LamF.has {X : Cx} {scope : Scope} {x : Str} (L : LamF X.env.scope scope x) (ok : X.Ok) : ∀ y ∈ scope.names, y.2 = .free → ∃ c, X.env.cells.lookup y.1 = some c := fun y hy e => by
  rcases L.free y hy e with k | k
  · exact ok.has _ (.inl k)
  · exact ok.has _ (.inr k)
/-- the object at f is this lambda -/
def LamO (f : Addr) (q : Str) (params : Arguments) (body : Expr) (scope : Scope) (cl : List (Str × Addr)) (c' : Addr) : HO := .ext fun h => ∃ (pm ctv : Value), h.get? f = some (PySem.W.kla_obj "<lambda>" q params body scope cl pm c' ctv)
section
variable {X : Cx} {pins : List (Addr × Obj)} {σ : L2.St} {H HZ : Hp} {s s1 : Shared}
theorem inv_lam {q : Str} {params : Arguments} {body : Expr} {scope : Scope} {cl : List (Str × Addr)} {c' : Addr} {pm ctv : Value} {t' : Nat} (I : Inv X pins σ H s) :
    Inv X pins σ (upd H s.heap.objs.size (LamO s.heap.objs.size q params body scope cl c')) { s with heap := s.heap.push (PySem.W.kla_obj "<lambda>" q params body scope cl pm c' ctv), toks := t' } := by
  refine I.laid (a := s.heap.objs.size) (fun b u e => Heap.get?_push_of_some _ e) (Nat.le_refl _) ?_
  have e : (s.heap.push (PySem.W.kla_obj "<lambda>" q params body scope cl pm c' ctv)).get? s.heap.objs.size = some (PySem.W.kla_obj "<lambda>" q params body scope cl pm c' ctv) := Heap.get?_push_size _ rfl
  exact ⟨⟨pm, ctv, e⟩, ⟨_, e⟩, fun h1 h2 ⟨p, t, z⟩ st => ⟨p, t, st _ z⟩⟩
theorem lamO_ne {f : Addr} {q : Str} {params : Arguments} {body : Expr} {scope : Scope} {cl : List (Str × Addr)} {c' : Addr} (ps : Array Value) : LamO f q params body scope cl c' ≠ .tbl ps := fun z => by
  unfold LamO at z
  cases z
/-- all but the table are kept, nothing that was tracked is gone -/
def Grown (P : Addr) (H H' : Hp) : Prop := ∀ b o, H b = some o → b ≠ P → H' b = some o
theorem Grown.refl {P : Addr} (H : Hp) : Grown P H H := fun _ _ h _ => h
theorem Grown.trans {P : Addr} {H H1 H2 : Hp} (a : Grown P H H1) (b : Grown P H1 H2) : Grown P H H2 := fun c o h n => b c o (a c o h n) n
/-- the lambda is made; its object is known -/
theorem lam_make4 {q : Str} {c P : Addr} {params : Arguments} {body : Expr} {scope : Scope} {pos : Pos} {E : Value → Shared → Prop} {Q : Value → Shared → Prop} (I : Inv X pins σ H s) (TB : TabB X.base X.mg c P) (hcode : X.env.code = .ref c)
    (hq : q = X.env.qual ++ "<lambda>") (hT : TabS H P q) (hdef : defaultsOf params X.env = ([], [])) (hfree : ∀ y ∈ scope.names, y.2 = .free → ∃ c, X.env.cells.lookup y.1 = some c)
    (h : ∀ (f c' : Addr) (H1 : Hp) (s' : Shared), Inv X pins σ H1 s' → Grown P H H1 → (∀ b, H1 b = none → H b = none) → TabS H1 P q → H f = none → H1 f = some (LamO f q params body scope (cloFrom X.env.cells scope.names []) c') → H1 c' = some (CodeO c' q) → (∀ b o, b ≠ P → s.heap.get? b = some o → s'.heap.get? b = some o) → Q (.ref f) s') :
    wpAny (model X.prog X.w) X.A (eval (.Lambda params body scope pos) X.env) Q E s := by
  subst hq
  obtain ⟨ps, hP, ht, ha⟩ := hT
  refine PySem.W.kla_eval hdef ?_
  have bP : s.heap.BuiltinsAt X.mg P := TB.bm.keeps I.bk
  have hP' : s.heap.get? P = some { cls := .none, data := .fields ps } := I.hok P _ hP
  cases hc : codeAmong pos ps.toList with
  | none =>
    refine PySem.W.kla_makeFunction (mg := X.mg) (c := c) (P := P) (ps := ps) (closure_ok hfree) I.ok.glob (I.mod.glob.keeps I.bk) hcode (TB.code.keeps I.bk) hP' ht hc TB.gP bP fun c' ctv h' tk hx hge hlt hrec htb => ?_
    obtain ⟨c2, oc, vs, t, e2, hoc, hd, hv⟩ := hrec
    cases e2
    have nC : H c' = none := I.hok.fresh hge
    have I1 := inv_table (t' := tk) (more := #[rawInt pos.line, rawInt pos.col, .ref c']) (h' := h') I hP (fun b o hb e => hx b o hb e) htb hge ⟨oc, vs, t, hoc, hd, hv⟩
    have hE : ∀ b o, H b = some o → b ≠ P → upd (upd H P (.tbl (ps ++ #[rawInt pos.line, rawInt pos.col, .ref c']))) c' (CodeO c' (X.env.qual ++ "<lambda>")) b = some o := fun b o e n => by
      rw [upd_ne (ne_of_none e nC), upd_ne n]
      exact e
    have eL : (ps ++ #[rawInt pos.line, rawInt pos.col, .ref c']).toList = ps.toList ++ [rawInt pos.line, rawInt pos.col, .ref c'] := by simp
    have nF := I1.hok.fresh (Nat.le_refl _)
    have I2 := inv_lam (q := X.env.qual ++ "<lambda>") (params := params) (body := body) (scope := scope) (cl := cloFrom X.env.cells scope.names []) (c' := c') (pm := (X.mg "__name__").getD .none) (ctv := ctv) (t' := tk) I1
    have nPc : P ≠ c' := ne_of_none hP nC
    have ec : upd (upd H P (.tbl (ps ++ #[rawInt pos.line, rawInt pos.col, .ref c']))) c' (CodeO c' (X.env.qual ++ "<lambda>")) c' = some (CodeO c' (X.env.qual ++ "<lambda>")) := upd_same
    have eP : upd (upd H P (.tbl (ps ++ #[rawInt pos.line, rawInt pos.col, .ref c']))) c' (CodeO c' (X.env.qual ++ "<lambda>")) P = some (.tbl (ps ++ #[rawInt pos.line, rawInt pos.col, .ref c'])) := (upd_ne nPc).trans upd_same
    refine h h'.objs.size c' _ _ I2 (fun b o e n => ?_) (fun b e => NdefX.upd_none (NdefX.upd_none (NdefX.upd_none e))) ⟨_, (upd_ne (ne_of_none eP nF)).trans eP, by rw [eL]; exact PySem.TriplesOk_snoc _ _ _ _ ht, fun p' cv hcv => ?_⟩ (I.hok.fresh (Nat.le_trans hge (Nat.le_of_lt hlt))) upd_same ?_ (fun b o hb e => Heap.get?_push_of_some _ (hx b o hb e))
    · have e1 := hE b o e n
      exact (upd_ne (ne_of_none e1 nF)).trans e1
    · rw [eL] at hcv
      rcases among_app _ ht hcv with z | z
      · obtain ⟨c0, e1, e2⟩ := ha p' cv z
        have e3 := hE _ _ e2 (fun z => by rw [z, hP] at e2; exact codeO_ne _ (Option.some.inj e2).symm)
        exact ⟨c0, e1, (upd_ne (ne_of_none e3 nF)).trans e3⟩
      · exact ⟨c', z, (upd_ne (ne_of_none ec nF)).trans ec⟩
    · exact (upd_ne (ne_of_none ec nF)).trans ec
  | some cv =>
    obtain ⟨c', e, hco⟩ := ha pos cv hc
    subst e
    refine PySem.W.kla_makeFunctionHit (mg := X.mg) (c := c) (P := P) (ps := ps) (closure_ok hfree) I.ok.glob (I.mod.glob.keeps I.bk) hcode (TB.code.keeps I.bk) hP' ht hc bP fun ctv h' tk hx hsz => ?_
    have I1 : Inv X pins σ H { s with heap := h', toks := tk } := I.kept hx
    have nF : H h'.objs.size = none := I1.hok.fresh (Nat.le_refl _)
    have I2 := inv_lam (q := X.env.qual ++ "<lambda>") (params := params) (body := body) (scope := scope) (cl := cloFrom X.env.cells scope.names []) (c' := c') (pm := (X.mg "__name__").getD .none) (ctv := ctv) (t' := tk) I1
    refine h h'.objs.size c' _ _ I2 (fun b o e n => ?_) (fun b e => NdefX.upd_none e) ⟨ps, (upd_ne (ne_of_none hP nF)).trans hP, ht, fun p' cv hcv => ?_⟩ nF upd_same ?_ (fun b o _ e => Heap.get?_push_of_some _ (hx b o e))
    · exact (upd_ne (ne_of_none e nF)).trans e
    · obtain ⟨c0, e1, e2⟩ := ha p' cv hcv
      exact ⟨c0, e1, (upd_ne (ne_of_none e2 nF)).trans e2⟩
    · exact (upd_ne (ne_of_none hco nF)).trans hco
theorem lam_make3 {q : Str} {c P : Addr} {params : Arguments} {body : Expr} {scope : Scope} {pos : Pos} {E : Value → Shared → Prop} {Q : Value → Shared → Prop} (I : Inv X pins σ H s) (TB : TabB X.base X.mg c P) (hcode : X.env.code = .ref c)
    (hq : q = X.env.qual ++ "<lambda>") (hT : TabS H P q) (hdef : defaultsOf params X.env = ([], [])) (hfree : ∀ y ∈ scope.names, y.2 = .free → ∃ c, X.env.cells.lookup y.1 = some c)
    (h : ∀ (f c' : Addr) (H1 : Hp) (s' : Shared), Inv X pins σ H1 s' → Grown P H H1 → (∀ b, H1 b = none → H b = none) → TabS H1 P q → H f = none → H1 f = some (LamO f q params body scope (cloFrom X.env.cells scope.names []) c') → H1 c' = some (CodeO c' q) → Q (.ref f) s') :
    wpAny (model X.prog X.w) X.A (eval (.Lambda params body scope pos) X.env) Q E s := lam_make4 I TB hcode hq hT hdef hfree fun f c' H1 s' a b c d e f1 g _ => h f c' H1 s' a b c d e f1 g
/-- the context of the lambda's body, entered at s -/
def lamCx1 (X : Cx) (A : Around) (scope : Scope) (s : Shared) (H : Hp) (f c' : Addr) (N' : List Str) : Cx where
  prog := X.prog
  w := X.w
  K := X.K
  mg := X.mg
  base := X.base
  A := A.deeper (lamEnv X scope s.heap.objs.size f c')
  N := N'
  s_0 := s
  H_0 := H
  env := lamEnv X scope s.heap.objs.size f c'
  outer := X.stack
  stack := lamEnv X scope s.heap.objs.size f c' :: X.stack
  ex := []
  fn := fun _ => false
  calm := true
  pn := []
  xe := fun _ _ => False
theorem lam_start1 {A : Around} {scope : Scope} {x : Str} {f c' : Addr} {u : Value} {v : V} {h₁ : Heap} {tk : Nat} (I : Inv X pins σ H s) (L : LamF X.env.scope scope x) (hA : A.frames = some X.stack) (hd : A.handled = none) (hx : x ∉ X.N) (ru : RelV v u)
    (hns : h₁.Ns s.heap.objs.size fun y => [(x, u)].reverse.lookup y) (kp : ∀ b o, s.heap.get? b = some o → h₁.get? b = some o) :
    Inv (lamCx1 X A scope s H f c' (X.N ++ [x])) [] (σ ++ [some v]) H { s with heap := h₁, toks := tk } := by
  have hfree := L.has I.ok
  have e0 := I.env0
  have cm : ∀ {y c}, (cloFrom X.env.cells scope.names []).lookup y = some c → X.env.cells.lookup y = some c := fun {y c} e => by
    rcases cloFrom_mem (PySem.mem_of_lookup e) with hm | ⟨h1, h2⟩
    · cases hm
    · obtain ⟨c1, hc⟩ := hfree _ h1 rfl
      have hc : X.env.cells.lookup y = some c1 := hc
      have e2 : c = c1 := by
        rw [h2, hc] <;> rfl
      rw [e2]
      exact hc
  have look : ∀ {y}, scope.names.lookup y = some .free → ∃ c, (cloFrom X.env.cells scope.names []).lookup y = some c := fun {y} hl => by
    have hy : (y, NameKind.free) ∈ scope.names := PySem.mem_of_lookup hl
    exact mem_lookup (cloFrom_has (cells := X.env.cells) (acc := []) hy)
  have cellK : ∀ {c : Addr} {v : Option Value}, s.heap.IsCell c v → h₁.IsCell c v := fun {c v} ⟨o, ho, hd⟩ => ⟨_, kp _ _ ho, hd⟩
  have noA : ∀ b : Addr, b ∉ (lamCx1 X A scope s H f c' (X.N ++ [x])).ex := fun b z => absurd (show b ∈ ([] : List Addr) from z) (by simp)
  refine ⟨⟨e0.mod, L.kind, rfl, rfl, Nat.le_refl _, fun y z c e1 e2 => I.ok.inj y z c (cm e1) (cm e2), fun y hy => ?_, fun y c z _ => ?_, fun _ => hd, Around.frames_deeper hA, .inr ⟨rfl, rfl⟩, fun b z => absurd z (noA b), e0.bs, e0.bsz, fun b _ _ => noA b,
      fun b z => absurd z (noA b), e0.funs, e0.frf⟩,
    rfl, e0.bare, Un.kept kp, ⟨_, hns, fun i y v' e1 e2 e3 => ?_⟩, fun y c e => ?_, I.hok.fresh (Nat.le_refl _), fun y c e => ?_, fun q hq => absurd (show q ∈ ([] : List (Addr × Obj)) ++ [] from hq) (by simp), I.hok.kept kp, ?_⟩
  · have hy : scope.names.lookup y = some .cell ∨ scope.names.lookup y = some .free := hy
    rcases hy with hy | hy
    · exact absurd rfl (L.cell _ (PySem.mem_of_lookup hy))
    · exact look hy
  · have z : false = true := z
    cases z
  · have e1 : (X.N ++ [x])[i]? = some y := e1
    have e3 : Vis scope y := e3
    have hlen : σ.length = X.N.length := I.len
    by_cases hi : i < X.N.length
    · rw [List.getElem?_append_left hi] at e1
      rw [List.getElem?_append_left (by omega)] at e2
      rcases e3 with k | k | k
      · exact absurd ((L.own _ (PySem.mem_of_lookup k) rfl).symm ▸ List.mem_of_getElem? e1) hx
      · exact absurd rfl (L.cell _ (PySem.mem_of_lookup k))
      · obtain ⟨m, hn, hl⟩ := I.loc
        have hvis : Vis X.env.scope y := (L.free _ (PySem.mem_of_lookup k) rfl).elim (fun k => .inr (.inl k)) (fun k => .inr (.inr k))
        obtain ⟨w', r, q⟩ := hl i y v' e1 e2 hvis
        obtain ⟨c2, h2⟩ := look k
        refine ⟨w', r, .inr ⟨.inr k, c2, h2, ?_⟩⟩
        have c1 := cm h2
        rcases q with ⟨k', _⟩ | ⟨_, c3, e', z⟩
        · have k' : X.env.scope.names.lookup y = some .local := k'
          rcases L.free _ (PySem.mem_of_lookup k) rfl with k2 | k2 <;> rw [show X.env.scope.names.lookup y = _ from k2] at k' <;> cases k'
        · have e4 : some c2 = some c3 := c1.symm.trans e'
          cases e4
          exact cellK z
    · rw [List.getElem?_append_right (by omega)] at e1 e2
      have i0 : i - X.N.length = 0 := by
        have := (List.getElem?_eq_some_iff.1 e1).1
        simp at this
        omega
      rw [i0] at e1
      rw [hlen, i0] at e2
      cases e1
      cases e2
      exact ⟨u, ru, .inl ⟨L.loc, by simp⟩⟩
  · obtain ⟨v, q⟩ := I.cell y c (cm e)
    exact ⟨v, cellK q⟩
  · exact I.freeC y c (cm e)
  · show (σ ++ [some v]).length = (X.N ++ [x]).length
    rw [List.length_append, List.length_append, I.len]
    rfl
/-- the lambda called -/
theorem lam_run1 {A : Around} {q : Str} {params : Arguments} {body : Expr} {scope : Scope} {x : Str} {f c' : Addr} {u : Value} {v : V} {k : Nat} {tb : TE} {Q : VK} {EE : Value → Shared → Prop} (hq : q = X.env.qual ++ "<lambda>") (I : Inv X pins σ H s) (L : LamF X.env.scope scope x) (hr : Room (k + 1) A) (hA : A.frames = some X.stack)
    (hf : H f = some (LamO f q params body scope (cloFrom X.env.cells scope.names []) c')) (hc : H c' = some (CodeO c' q)) (hx : x ∉ X.N) (ru : RelV v u)
    (hbind : ∀ (q : Str) (cl : List (Str × Addr)) (pm cv ctv u : Value), bindArgs (PySem.W.kla_fn "<lambda>" q params body scope cl pm cv ctv) ⟨[u], []⟩ = pure [(x, u)])
    (hbody : Room k (A.deeper (lamEnv X scope s.heap.objs.size f c')) → PE (lamCx1 X A scope s H f c' (X.N ++ [x])) body tb) (ht : tb (σ ++ [some v]) H Q) :
    wpAny (model X.prog X.w) A (call (.ref f) [u]) (EP X pins σ Q) EE s := by
  subst hq
  obtain ⟨⟨pm, ctv, of1⟩, _, _⟩ := I.hok f _ hf
  obtain ⟨⟨oc, vs, t, hoc, hdc, hvc⟩, _, _⟩ := I.hok c' _ hc
  have rc : codeAny (model X.prog X.w) A (.call (.ref f) ⟨[u], []⟩) (CR C8.CX0 X.stack X.prog X.w H s Q C8.E0) s := by
    refine PySem.W.kla_callFunE hr.depth of1 rfl L.co L.gen rfl ⟨c', oc, vs, t, rfl, hoc, hdc, hvc⟩ ?_
    rw [hbind]
    refine wpAny_pure (wpAny_newFunctionEnv L.cell (fun y hy => ?_) (fun h₁ hns hsb => ⟨I.nolimit.fresh _ hsb, ?_⟩) L.kind)
    · rw [List.mem_singleton.mp hy]
      exact L.loc
    show codeAny _ _ (.expr body (lamEnv X scope s.heap.objs.size f c')) _ _
    have kp : ∀ b o, s.heap.get? b = some o → h₁.get? b = some o := fun b o e => hsb.extBut b o (Nat.ne_of_lt (Heap.lt_size e)) (Heap.get?_push_of_some _ e)
    have J := lam_start1 (f := f) (c' := c') (tk := s.toks + [(x, u)].length) I L hA hr.hd hx ru hns kp
    refine PySem.W.kla_codeExpr (wpAny_mono ((hbody (hr.deeper _)).run [] _ _ H Q J ht) (fun v s' hq => ?_) fun e s' hq => hq.elim)
    obtain ⟨w', H', J', rv, q⟩ := hq
    exact ⟨w', H', J'.os, J'.bare, J'.base, J'.hok, rv, q⟩
  refine wpAny_call (codeAny_mono rc fun r s' hq => ?_)
  cases r with
  | error e => exact (show False from hq).elim
  | ok fl =>
    cases fl with
    | ret u => exact I.after hq
    | next => exact False.elim hq
    | brk => exact False.elim hq
    | cont => exact False.elim hq
theorem lam_start1W {A : Around} {scope : Scope} {x : Str} {f c' : Addr} {u : Value} {v : V} {h₁ : Heap} {tk : Nat} (I : Inv X pins σ H s) (L : LamF X.env.scope scope x) (hA : A.frames = some X.stack) (hd : A.handled = none) (wf : L2.St → L2.St) (hwl : ∀ σ, (wf σ).length = σ.length) (hw : ∀ (σ : L2.St) (i : Nat) (y : Str) (v : V), X.N[i]? = some y → (wf σ)[i]? = some (some v) → y ≠ x ∧ σ[i]? = some (some v)) (ru : RelV v u)
    (hns : h₁.Ns s.heap.objs.size fun y => [(x, u)].reverse.lookup y) (kp : ∀ b o, s.heap.get? b = some o → h₁.get? b = some o) :
    Inv (lamCx1 X A scope s H f c' (X.N ++ [x])) [] (wf σ ++ [some v]) H { s with heap := h₁, toks := tk } := by
  have hfree := L.has I.ok
  have e0 := I.env0
  have cm : ∀ {y c}, (cloFrom X.env.cells scope.names []).lookup y = some c → X.env.cells.lookup y = some c := fun {y c} e => by
    rcases cloFrom_mem (PySem.mem_of_lookup e) with hm | ⟨h1, h2⟩
    · cases hm
    · obtain ⟨c1, hc⟩ := hfree _ h1 rfl
      have hc : X.env.cells.lookup y = some c1 := hc
      have e2 : c = c1 := by
        rw [h2, hc] <;> rfl
      rw [e2]
      exact hc
  have look : ∀ {y}, scope.names.lookup y = some .free → ∃ c, (cloFrom X.env.cells scope.names []).lookup y = some c := fun {y} hl => by
    have hy : (y, NameKind.free) ∈ scope.names := PySem.mem_of_lookup hl
    exact mem_lookup (cloFrom_has (cells := X.env.cells) (acc := []) hy)
  have cellK : ∀ {c : Addr} {v : Option Value}, s.heap.IsCell c v → h₁.IsCell c v := fun {c v} ⟨o, ho, hd⟩ => ⟨_, kp _ _ ho, hd⟩
  have noA : ∀ b : Addr, b ∉ (lamCx1 X A scope s H f c' (X.N ++ [x])).ex := fun b z => absurd (show b ∈ ([] : List Addr) from z) (by simp)
  refine ⟨⟨e0.mod, L.kind, rfl, rfl, Nat.le_refl _, fun y z c e1 e2 => I.ok.inj y z c (cm e1) (cm e2), fun y hy => ?_, fun y c z _ => ?_, fun _ => hd, Around.frames_deeper hA, .inr ⟨rfl, rfl⟩, fun b z => absurd z (noA b), e0.bs, e0.bsz, fun b _ _ => noA b,
      fun b z => absurd z (noA b), e0.funs, e0.frf⟩,
    rfl, e0.bare, Un.kept kp, ⟨_, hns, fun i y v' e1 e2 e3 => ?_⟩, fun y c e => ?_, I.hok.fresh (Nat.le_refl _), fun y c e => ?_, fun q hq => absurd (show q ∈ ([] : List (Addr × Obj)) ++ [] from hq) (by simp), I.hok.kept kp, ?_⟩
  · have hy : scope.names.lookup y = some .cell ∨ scope.names.lookup y = some .free := hy
    rcases hy with hy | hy
    · exact absurd rfl (L.cell _ (PySem.mem_of_lookup hy))
    · exact look hy
  · have z : false = true := z
    cases z
  · have e1 : (X.N ++ [x])[i]? = some y := e1
    have e3 : Vis scope y := e3
    have hlen : σ.length = X.N.length := I.len
    by_cases hi : i < X.N.length
    · rw [List.getElem?_append_left hi] at e1
      rw [List.getElem?_append_left (by rw [hwl]; omega)] at e2
      obtain ⟨hx, e2⟩ := hw _ _ _ _ e1 e2
      rcases e3 with k | k | k
      · exact absurd (L.own _ (PySem.mem_of_lookup k) rfl) hx
      · exact absurd rfl (L.cell _ (PySem.mem_of_lookup k))
      · obtain ⟨m, hn, hl⟩ := I.loc
        have hvis : Vis X.env.scope y := (L.free _ (PySem.mem_of_lookup k) rfl).elim (fun k => .inr (.inl k)) (fun k => .inr (.inr k))
        obtain ⟨w', r, q⟩ := hl i y v' e1 e2 hvis
        obtain ⟨c2, h2⟩ := look k
        refine ⟨w', r, .inr ⟨.inr k, c2, h2, ?_⟩⟩
        have c1 := cm h2
        rcases q with ⟨k', _⟩ | ⟨_, c3, e', z⟩
        · have k' : X.env.scope.names.lookup y = some .local := k'
          rcases L.free _ (PySem.mem_of_lookup k) rfl with k2 | k2 <;> rw [show X.env.scope.names.lookup y = _ from k2] at k' <;> cases k'
        · have e4 : some c2 = some c3 := c1.symm.trans e'
          cases e4
          exact cellK z
    · rw [List.getElem?_append_right (by omega)] at e1
      rw [List.getElem?_append_right (by rw [hwl]; omega)] at e2
      have i0 : i - X.N.length = 0 := by
        have := (List.getElem?_eq_some_iff.1 e1).1
        simp at this
        omega
      rw [i0] at e1
      rw [hwl, hlen, i0] at e2
      cases e1
      cases e2
      exact ⟨u, ru, .inl ⟨L.loc, by simp⟩⟩
  · obtain ⟨v, q⟩ := I.cell y c (cm e)
    exact ⟨v, cellK q⟩
  · exact I.freeC y c (cm e)
  · show (wf σ ++ [some v]).length = (X.N ++ [x]).length
    rw [List.length_append, List.length_append, hwl, I.len]
    rfl
/-- the same, the parameter's name a name of the def that holds nothing -/
theorem lam_run1W {A : Around} {q : Str} {params : Arguments} {body : Expr} {scope : Scope} {x : Str} {f c' : Addr} {u : Value} {v : V} {k : Nat} {tb : TE} {Q : VK} {EE : Value → Shared → Prop} (hq : q = X.env.qual ++ "<lambda>") (I : Inv X pins σ H s) (L : LamF X.env.scope scope x) (hr : Room (k + 1) A) (hA : A.frames = some X.stack)
    (hf : H f = some (LamO f q params body scope (cloFrom X.env.cells scope.names []) c')) (hc : H c' = some (CodeO c' q)) (wf : L2.St → L2.St) (hwl : ∀ σ, (wf σ).length = σ.length) (hw : ∀ (σ : L2.St) (i : Nat) (y : Str) (v : V), X.N[i]? = some y → (wf σ)[i]? = some (some v) → y ≠ x ∧ σ[i]? = some (some v)) (ru : RelV v u)
    (hbind : ∀ (q : Str) (cl : List (Str × Addr)) (pm cv ctv u : Value), bindArgs (PySem.W.kla_fn "<lambda>" q params body scope cl pm cv ctv) ⟨[u], []⟩ = pure [(x, u)])
    (hbody : Room k (A.deeper (lamEnv X scope s.heap.objs.size f c')) → PE (lamCx1 X A scope s H f c' (X.N ++ [x])) body tb) (ht : tb (wf σ ++ [some v]) H Q) :
    wpAny (model X.prog X.w) A (call (.ref f) [u]) (EP X pins σ Q) EE s := by
  subst hq
  obtain ⟨⟨pm, ctv, of1⟩, _, _⟩ := I.hok f _ hf
  obtain ⟨⟨oc, vs, t, hoc, hdc, hvc⟩, _, _⟩ := I.hok c' _ hc
  have rc : codeAny (model X.prog X.w) A (.call (.ref f) ⟨[u], []⟩) (CR C8.CX0 X.stack X.prog X.w H s Q C8.E0) s := by
    refine PySem.W.kla_callFunE hr.depth of1 rfl L.co L.gen rfl ⟨c', oc, vs, t, rfl, hoc, hdc, hvc⟩ ?_
    rw [hbind]
    refine wpAny_pure (wpAny_newFunctionEnv L.cell (fun y hy => ?_) (fun h₁ hns hsb => ⟨I.nolimit.fresh _ hsb, ?_⟩) L.kind)
    · rw [List.mem_singleton.mp hy]
      exact L.loc
    show codeAny _ _ (.expr body (lamEnv X scope s.heap.objs.size f c')) _ _
    have kp : ∀ b o, s.heap.get? b = some o → h₁.get? b = some o := fun b o e => hsb.extBut b o (Nat.ne_of_lt (Heap.lt_size e)) (Heap.get?_push_of_some _ e)
    have J := lam_start1W (f := f) (c' := c') (tk := s.toks + [(x, u)].length) I L hA hr.hd wf hwl hw ru hns kp
    refine PySem.W.kla_codeExpr (wpAny_mono ((hbody (hr.deeper _)).run [] _ _ H Q J ht) (fun v s' hq => ?_) fun e s' hq => hq.elim)
    obtain ⟨w', H', J', rv, q⟩ := hq
    exact ⟨w', H', J'.os, J'.bare, J'.base, J'.hok, rv, q⟩
  refine wpAny_call (codeAny_mono rc fun r s' hq => ?_)
  cases r with
  | error e => exact (show False from hq).elim
  | ok fl =>
    cases fl with
    | ret u => exact I.after hq
    | next => exact False.elim hq
    | brk => exact False.elim hq
    | cont => exact False.elim hq
end
end Mz

set_option Elab.async false
set_option linter.all false
set_option maxRecDepth 100000
set_option maxHeartbeats 4000000
/-! min(d, key=lambda x: ..) over the keys of a dict -/
namespace Mz
open PySem PySem.Spec PyProof.Rows L2 LamX
section
variable {prog : Program} {w : World} {A : Around} {R : Result → Shared → Prop} {E : Value → Shared → Prop}
abbrev pairObj (vb kb : Value) (c : Nat) : Obj := { cls := .type "list", dict := none, data := .seq #[vb, kb] c, slots := #[] }
theorem min_loopJ {I q S : Addr} {n : Nat} (J : Nat → Value → Value → Shared → Prop)
    (hS : ∀ j vb kb s, J j vb kb s → ∃ c, s.heap.get? S = some (pairObj vb kb c))
    (step : ∀ j vb kb s, j + 1 < n → J j vb kb s → wpAny (model prog w) A.in1 (pyNext (.ref I)) (fun r s1 => ∃ v, r = some v ∧ wpAny (model prog w) A.in1 (call (.ref q) [v]) (fun k s2 =>
        (∃ c, s2.heap.get? S = some (pairObj vb kb c)) ∧ wpAny (model prog w) A.in1 (richCompare .Lt k kb) (fun r s3 => s3 = s2 ∧ ∃ b, r = .bool b ∧ (b = true → J (j + 1) v k { s2 with heap := s2.heap.update S (Obj.mapSeq fun _ => #[v, k]) }) ∧ (b = false → J (j + 1) vb kb s2)) (fun _ _ => False) s2) (fun _ _ => False) s1) (fun _ _ => False) s)
    (done : ∀ vb kb s, J (n - 1) vb kb s → wpAny (model prog w) A.in1 (pyNext (.ref I)) (fun r s1 => r = none ∧ (∃ c, s1.heap.get? S = some (pairObj vb kb c)) ∧ R (.ok (.ret vb)) { s1 with heap := s1.heap.update S (Obj.mapSeq fun _ => #[]) }) (fun _ _ => False) s) (kw : List (Str × Value)) :
    ∀ (k j : Nat) (s : Shared) (vb kb : Value), n - (j + 1) = k → j + 1 ≤ n → J j vb kb s → codeAny (model prog w) A (.builtin "min.loop" ⟨[.ref I, (.ref q), .ref S], kw⟩) R s := by
  have hname : (toString "min" ++ toString ".loop" : String) = "min.loop" := by decide
  intro k
  induction k with
  | zero =>
    intro j s vb kb hk hj hJ
    have hin : j = n - 1 := by omega
    subst hin
    obtain ⟨c, hs⟩ := hS _ _ _ _ hJ
    refine codeAny_builtin F.entry_min_loop ?_
    rw [Around.under_plainId F.plain_min_loop _]
    show wpAny _ A.in1 (seqItems? (.ref S) >>= _) _ _ s
    refine wpAny_bind (wpAny_seqItems hs rfl ?_)
    show wpAny _ A.in1 (tryCatch (pyNext (.ref I)) _ >>= _) _ _ s
    refine wpAny_bind (wpAny_tryCatch (wpAny_mono (done _ _ _ hJ) (fun r s1 h1 => ?_) fun _ _ e => e.elim))
    obtain ⟨rfl, ⟨c1, hs1⟩, hq⟩ := h1
    show wpAny _ A.in1 (updateSeq S (fun _ => #[]) >>= _) _ _ _
    refine wpAny_bind ?_
    exact wpAny_updateSeq hs1 rfl (wpAny_bind (wpAny_letGo (wpAny_pure hq)))
  | succ k ih =>
    intro j s vb kb hk hj hJ
    obtain ⟨c, hs⟩ := hS _ _ _ _ hJ
    have hlt : j + 1 < n := by omega
    refine codeAny_builtin F.entry_min_loop ?_
    rw [Around.under_plainId F.plain_min_loop _]
    show wpAny _ A.in1 (seqItems? (.ref S) >>= _) _ _ s
    refine wpAny_bind (wpAny_seqItems hs rfl ?_)
    show wpAny _ A.in1 (tryCatch (pyNext (.ref I)) _ >>= _) _ _ s
    refine wpAny_bind (wpAny_tryCatch (wpAny_mono (step j vb kb s hlt hJ) (fun r s1 h1 => ?_) fun _ _ e => e.elim))
    obtain ⟨v, rfl, h1⟩ := h1
    show wpAny _ A.in1 (tryCatch (holding [v] (call (.ref q) [v])) _ >>= _) _ _ _
    refine wpAny_bind (wpAny_tryCatch (wpAny_holding (wpAny_mono h1 (fun kx s2 h2 => ?_) fun _ _ e => e.elim)))
    obtain ⟨⟨c2, hs2⟩, h2⟩ := h2
    show wpAny _ A.in1 (tryCatch (holding [v, kx] (richCompare .Lt kx kb >>= _)) _ >>= _) _ _ _
    refine wpAny_bind (wpAny_tryCatch (wpAny_holding (wpAny_bind (wpAny_mono h2 (fun r s3 h3 => ?_) fun _ _ e => e.elim))))
    obtain ⟨rfl, b, rfl, ht, hf⟩ := h3
    refine wpAny_bind (wpAny_holding (wpAny_truthy_bool ?_))
    refine wpAny_bind (wpAny_letGo (wpAny_pure ?_))
    cases hb : b with
    | true =>
      simp only [if_true]
      refine wpAny_bind ?_
      refine wpAny_updateSeq hs2 rfl (wpAny_bind (wpAny_letGo ?_))
      rw [hname]
      exact wpAny_pure ⟨plainId_quiet F.plain_min_loop _, ih (j + 1) _ v kx (by omega) hlt (ht hb)⟩
    | false =>
      simp only [Bool.false_eq_true, if_false]
      refine wpAny_bind (wpAny_letGo ?_)
      rw [hname]
      exact wpAny_pure ⟨plainId_quiet F.plain_min_loop _, ih (j + 1) _ vb kb (by omega) hlt (hf hb)⟩
theorem min_firstJ {I q S : Addr} {n : Nat} (hn : 0 < n) (J : Nat → Value → Value → Shared → Prop) {s : Shared} {c : Nat} (h0 : s.heap.get? S = some { cls := .type "list", dict := none, data := .seq #[] c, slots := #[] })
    (first : wpAny (model prog w) A.in1 (pyNext (.ref I)) (fun r s1 => ∃ v, r = some v ∧ wpAny (model prog w) A.in1 (call (.ref q) [v]) (fun k s2 =>
        (∃ c, s2.heap.get? S = some { cls := .type "list", dict := none, data := .seq #[] c, slots := #[] }) ∧ J 0 v k { s2 with heap := s2.heap.update S (Obj.mapSeq fun _ => #[v, k]) }) (fun _ _ => False) s1) (fun _ _ => False) s)
    (hS : ∀ j vb kb s, J j vb kb s → ∃ c, s.heap.get? S = some (pairObj vb kb c))
    (step : ∀ j vb kb s, j + 1 < n → J j vb kb s → wpAny (model prog w) A.in1 (pyNext (.ref I)) (fun r s1 => ∃ v, r = some v ∧ wpAny (model prog w) A.in1 (call (.ref q) [v]) (fun k s2 =>
        (∃ c, s2.heap.get? S = some (pairObj vb kb c)) ∧ wpAny (model prog w) A.in1 (richCompare .Lt k kb) (fun r s3 => s3 = s2 ∧ ∃ b, r = .bool b ∧ (b = true → J (j + 1) v k { s2 with heap := s2.heap.update S (Obj.mapSeq fun _ => #[v, k]) }) ∧ (b = false → J (j + 1) vb kb s2)) (fun _ _ => False) s2) (fun _ _ => False) s1) (fun _ _ => False) s)
    (done : ∀ vb kb s, J (n - 1) vb kb s → wpAny (model prog w) A.in1 (pyNext (.ref I)) (fun r s1 => r = none ∧ (∃ c, s1.heap.get? S = some (pairObj vb kb c)) ∧ R (.ok (.ret vb)) { s1 with heap := s1.heap.update S (Obj.mapSeq fun _ => #[]) }) (fun _ _ => False) s) (kw : List (Str × Value)) :
    codeAny (model prog w) A (.builtin "min.loop" ⟨[.ref I, (.ref q), .ref S], kw⟩) R s := by
  have hname : (toString "min" ++ toString ".loop" : String) = "min.loop" := by decide
  refine codeAny_builtin F.entry_min_loop ?_
  rw [Around.under_plainId F.plain_min_loop _]
  show wpAny _ A.in1 (seqItems? (.ref S) >>= _) _ _ s
  refine wpAny_bind (wpAny_seqItems h0 rfl ?_)
  show wpAny _ A.in1 (tryCatch (pyNext (.ref I)) _ >>= _) _ _ s
  refine wpAny_bind (wpAny_tryCatch (wpAny_mono first (fun r s1 h1 => ?_) fun _ _ e => e.elim))
  obtain ⟨v, rfl, h1⟩ := h1
  show wpAny _ A.in1 (tryCatch (holding [v] (call (.ref q) [v])) _ >>= _) _ _ _
  refine wpAny_bind (wpAny_tryCatch (wpAny_holding (wpAny_mono h1 (fun kx s2 h2 => ?_) fun _ _ e => e.elim)))
  obtain ⟨⟨c2, hs2⟩, h2⟩ := h2
  show wpAny _ A.in1 (updateSeq S (fun _ => #[v, kx]) >>= _) _ _ _
  refine wpAny_bind ?_
  refine wpAny_updateSeq hs2 rfl ?_
  rw [hname]
  exact wpAny_pure ⟨plainId_quiet F.plain_min_loop _, min_loopJ J hS step done kw _ 0 _ v kx rfl hn h2⟩
theorem call_minJ {x : Value} {q : Addr} {Q : Value → Shared → Prop} {s : Shared}
    (h : wpAny (model prog w) A.in1 (pyIter x) (fun it s₂ => ∃ (I n : Nat) (J : Addr → Nat → Value → Value → Shared → Prop), it = .ref I ∧ 0 < n ∧ 
      ∀ (S : Addr) (s3 : Shared), S = s₂.heap.objs.size → s3 = { s₂ with heap := s₂.heap.push { cls := .type "list", data := .seq #[] 0 }, toks := s₂.toks } →
        wpAny (model prog w) A.in1 (pyNext (.ref I)) (fun r s1 => ∃ v, r = some v ∧ wpAny (model prog w) A.in1 (call (.ref q) [v]) (fun k s2 =>
          (∃ c, s2.heap.get? S = some { cls := .type "list", dict := none, data := .seq #[] c, slots := #[] }) ∧ J S 0 v k { s2 with heap := s2.heap.update S (Obj.mapSeq fun _ => #[v, k]) }) (fun _ _ => False) s1) (fun _ _ => False) s3 ∧
        (∀ (j : Nat) (vb kb : Value) (s : Shared), J S j vb kb s → ∃ c, s.heap.get? S = some (pairObj vb kb c)) ∧
        (∀ j vb kb s, j + 1 < n → J S j vb kb s → wpAny (model prog w) A.in1 (pyNext (.ref I)) (fun r s1 => ∃ v, r = some v ∧ wpAny (model prog w) A.in1 (call (.ref q) [v]) (fun k s2 =>
          (∃ c, s2.heap.get? S = some (pairObj vb kb c)) ∧ wpAny (model prog w) A.in1 (richCompare .Lt k kb) (fun r s3 => s3 = s2 ∧ ∃ b, r = .bool b ∧ (b = true → J S (j + 1) v k { s2 with heap := s2.heap.update S (Obj.mapSeq fun _ => #[v, k]) }) ∧ (b = false → J S (j + 1) vb kb s2)) (fun _ _ => False) s2) (fun _ _ => False) s1) (fun _ _ => False) s) ∧
        (∀ vb kb s, J S (n - 1) vb kb s → wpAny (model prog w) A.in1 (pyNext (.ref I)) (fun r s1 => r = none ∧ (∃ c, s1.heap.get? S = some (pairObj vb kb c)) ∧ Q vb { s1 with heap := s1.heap.update S (Obj.mapSeq fun _ => #[]) }) (fun _ _ => False) s)) E s) :
    wpAny (model prog w) A (call (.builtin "min") [x] [(Str.ofString "key", .ref q)]) Q E s := by
  have hname : (toString "min" ++ toString ".loop" : String) = "min.loop" := by decide
  refine PyProof.Rows.kmk_tree F.kind_min F.plain_min F.entry_min (PyProof.Rows.kmk_min_key _ _) ?_
  show wpAny _ A.in1 (Builtin.Builtins.bindParams "min" ["key", "default"] 0 ⟨[], [(Str.ofString "key", .ref q)]⟩ >>= _) _ _ s
  refine wpAny_bind (wpAny_of_eq (show Builtin.Builtins.bindParams "min" ["key", "default"] 0 ⟨[], [(Str.ofString "key", .ref q)]⟩ = pure [some (.ref q), none] from rfl) ?_)
  refine wpAny_bind (wpAny_pure ?_)
  refine wpAny_bind (wpAny_mono h (fun it s₂ h₂ => ?_) fun _ _ e => e)
  obtain ⟨I, n, J, rfl, hn, h3⟩ := h₂
  obtain ⟨h4, h5, h6, h7⟩ := h3 _ _ rfl rfl
  refine wpAny_bind (wpAny_newObj_type ?_)
  rw [hname]
  exact wpAny_pure ⟨plainId_quiet F.plain_min_loop _, min_firstJ hn (J _) (Heap.get?_push_size _ rfl) h4 h5 h6 (fun vb kb s hj => h7 vb kb s hj) _⟩
end
def keyBest (ds : List PyData) : Nat → Nat := PySem.argBest fun i j => PySem.W.dataLt (ds.getD i PyData.none) (ds.getD j PyData.none)
theorem argBest_le' (bt : Nat → Nat → Bool) : ∀ k, PySem.argBest bt k ≤ k
  | 0 => Nat.le_refl _
  | k + 1 => by
    unfold PySem.argBest
    split
    · exact Nat.le_refl _
    · exact Nat.le_succ_of_le (argBest_le' bt k)
theorem dpAll_get {K : PySem.W.Frag} {H : Hp} : ∀ {ks : List V} {ds : List PyData}, DpAll K H ks ds → ∀ {i : Nat} {k : V} {d : PyData}, ks[i]? = some k → ds[i]? = some d → Dp K H k d
  | _, _, .nil, _, _, _, h, _ => by simp at h
  | _, _, .cons h1 h2, 0, _, _, h, g => by
    cases h
    cases g
    exact h1
  | _, _, .cons h1 h2, i + 1, _, _, h, g => dpAll_get h2 (i := i) (by simpa using h) (by simpa using g)
/-- of one value -/
def one1 (Q : V → Hp → Prop) : List V → Hp → Prop
  | [v], H => Q v H
  | _, _ => False
/-- the lambda itself -/
def tLamE (P : Addr) (q : Str) (params : Arguments) (body : Expr) (scope : Scope) (cl : List (Str × Addr)) : TE := fun σ H Q => TabS H P q ∧ ∀ (f c' : Addr) (H1 : Hp), Grown P H H1 → (∀ b, H1 b = none → H b = none) → TabS H1 P q → H f = none → H1 f = some (LamO f q params body scope cl c') → H1 c' = some (CodeO c' q) → Q (.ref f) H1
/-- what is asked once the lambda stands -/
def MinR (K : PySem.W.Frag) (P : Addr) (q : Str) (params : Arguments) (body : Expr) (scope : Scope) (cl : List (Str × Addr)) (tb : TE) (x fv : V) (σ : L2.St) (H2 : Hp) (Q : VK) : Prop :=
  ∃ (f c' d : Addr) (o : Obj) (kvs : List (Key × V)) (ds : List PyData), fv = .ref f ∧ H2 f = some (LamO f q params body scope cl c') ∧ H2 c' = some (CodeO c' q) ∧ (∃ ps, H2 P = some (.tbl ps)) ∧ x = .ref d ∧ H2 d = some (.frz o (.dK kvs)) ∧ 0 < kvs.length ∧ ds.length = kvs.length ∧
  (∀ e ∈ ds, ∀ e' ∈ ds, PySem.W.alike e e' = true) ∧ (∀ e ∈ ds, e ≠ .none ∧ e.depth ≤ 60) ∧
  ∃ W : Nat → List V → Hp → Prop, W 0 [] H2 ∧ (∀ i ks H, W i ks H → Grown P H2 H ∧ DpAll K H ks (ds.take i)) ∧
    (∀ i k v ks H, kvs[i]? = some (k, v) → W i ks H → tb (σ ++ [some (kV k)]) H fun key H' => W (i + 1) (ks ++ [key]) H') ∧
    ∀ ks H k v, W kvs.length ks H → kvs[keyBest ds (kvs.length - 1)]? = some (k, v) → Q (kV k) H
def tMinL (K : PySem.W.Frag) (P : Addr) (q : Str) (params : Arguments) (body : Expr) (scope : Scope) (cl : List (Str × Addr)) (td tb : TE) : TE := fun σ H Q => td σ H fun x H1 => tLamE P q params body scope cl σ H1 fun fv H2 => MinR K P q params body scope cl tb x fv σ H2 Q
section
variable {X : Cx}
theorem pe_lamE {P c : Addr} {q : Str} {body : Expr} {params : Arguments} {scope : Scope} {lpos : Pos} {x : Str} (TB : TabB X.base X.mg c P) (hcode : X.env.code = .ref c) (hq : q = X.env.qual ++ "<lambda>") (hdef : defaultsOf params X.env = ([], [])) (L : LamF X.env.scope scope x) :
    PE X (.Lambda params body scope lpos) (tLamE P q params body scope (cloFrom X.env.cells scope.names [])) := by
  refine ⟨fun pins s σ H Q I h => ?_⟩
  obtain ⟨hT, h⟩ := h
  exact lam_make3 I TB hcode hq hT hdef (L.has I.ok) fun f c' H1 s' I1 g nn T1 f0 f1 c1 => ⟨.ref f, H1, I1, rfl, h f c' H1 g nn T1 f0 f1 c1⟩
theorem pe_minLam {P c : Addr} {q : Str} {td tb : TE} {dexpr body : Expr} {params : Arguments} {scope : Scope} {p pos lpos kpos : Pos} {x : Str} {k : Nat} (hc : X.calm = true) (hr : Room (k + 3) X.A) (hg : Gl X "min") (hm : X.mg "min" = none) (TB : TabB X.base X.mg c P) (hcode : X.env.code = .ref c)
    (hq : q = X.env.qual ++ "<lambda>") (L : LamF X.env.scope scope x) (hd : PA X [dexpr] (tCons td tNil)) (hdef : defaultsOf params X.env = ([], [])) (hx : x ∉ X.N)
    (hbind : ∀ (q : Str) (cl : List (Str × Addr)) (pm cv ctv u : Value), bindArgs (PySem.W.kla_fn "<lambda>" q params body scope cl pm cv ctv) ⟨[u], []⟩ = pure [(x, u)])
    (hbody : ∀ (s : Shared) (H : Hp) (f c' : Addr), Room (k + 1) (X.A.in1.deeper (lamEnv X scope s.heap.objs.size f c')) → PE (lamCx1 X X.A.in1 scope s H f c' (X.N ++ [x])) body tb)
    (he : backTo pos (starEach [dexpr] X.env) = (false, eval dexpr X.env) :: backTo pos (starEach [] X.env) := by rfl) (hpl : (backTo pos (starEach [dexpr] X.env)).any (·.1) = false := by rfl)
    (hall : (backToKw pos (keywordEach [⟨some ("key" : Str), .Lambda params body scope lpos, kpos⟩] X.env)).all (·.1.isSome) = true := by rfl) (hnone : (backToKw pos (keywordEach [⟨some ("key" : Str), .Lambda params body scope lpos, kpos⟩] X.env)).any (·.1.isNone) = false := by rfl) (hks : (backToKw pos (keywordEach [⟨some ("key" : Str), .Lambda params body scope lpos, kpos⟩] X.env)).filterMap (·.1) = [Str.ofString "key"] := by rfl) :
    PE X (.Call (.Name "min" p) [dexpr] [⟨some ("key" : Str), .Lambda params body scope lpos, kpos⟩] pos) (tMinL X.K P q params body scope (cloFrom X.env.cells scope.names []) td tb) := by
  have PL : PE X (.Lambda params body scope lpos) (tLamE P q params body scope (cloFrom X.env.cells scope.names [])) := pe_lamE TB hcode hq hdef L
  refine ⟨fun pins s σ H Q I h => ?_⟩
  refine wpAny_Call_Name_kw (ld_blt I hg hm boot_min ?_)
  refine PyProof.Rows.callWith_kw (thn (hd.run pos pins s σ H (one1 fun x H1 => tLamE P q params body scope (cloFrom X.env.cells scope.names []) σ H1 fun fv H2 => MinR X.K P q params body scope (cloFrom X.env.cells scope.names []) tb x fv σ H2 Q) I h) fun us s1 ⟨vs, H1, I1, r1, q1⟩ => ?_) he hpl hall hnone
  match vs, q1, r1 with
  | [x'], q1, r1 =>
  refine thn ((pk_cons (nm := some ("key" : Str)) (kpos := kpos) PL pk_nil).run pos pins s1 σ H1 (one1 fun fv H2 => MinR X.K P q params body scope (cloFrom X.env.cells scope.names []) tb x' fv σ H2 Q) I1 q1) fun ws s2 ⟨zs, H2, I2, r2, q2⟩ => ?_
  match zs, q2, r2 with
  | [fv], q2, r2 =>
  rw [hks]
  obtain ⟨f, c', d, o, kvs, ds, rfl, hf, hc1, ⟨ps, hP⟩, rfl, hdd, hn, hl, hal, hdp, W, w0, wk, step, fin⟩ := q2
  obtain rfl := Vals.ref1 r1
  obtain rfl := Vals.ref1 r2
  show wpAny _ _ (call (.builtin "min") [.ref d] [(Str.ofString "key", .ref f)]) _ _ s2
  obtain ⟨hs, hgd, hxd, es, ep, vs0, hdt, hsz, kv, hm0⟩ := I2.frzK hdd
  have hlv : kvs.length = vs0.length := Paired.length kv
  have hPf : ∀ {b : Addr} {u : HO}, H2 b = some u → (∀ z, u ≠ .tbl z) → b ≠ P := fun {b u} e n z => by
    rw [z, hP] at e
    exact n _ (Option.some.inj e).symm
  have Kf : ∀ {i ks H}, W i ks H → H f = some (LamO f q params body scope (cloFrom X.env.cells scope.names []) c') := fun w => (wk _ _ _ w).1 _ _ hf (hPf hf lamO_ne)
  have Kc : ∀ {i ks H}, W i ks H → H c' = some (CodeO c' q) := fun w => (wk _ _ _ w).1 _ _ hc1 (hPf hc1 codeO_ne)
  have Kd : ∀ {i ks H}, W i ks H → H d = some (.frz o (.dK kvs)) := fun w => (wk _ _ _ w).1 _ _ hdd (hPf hdd fun _ z => by cases z)
  have hrA : Room (k + 2) X.A.in1 := Room.in1 hr
  have hu : X.A.units + 200 < cLine := by
    have := hr.un
    omega
  have dsget : ∀ {i : Nat}, i < kvs.length → ∃ e, ds[i]? = some e ∧ ds.getD i PyData.none = e := fun {i} h => ⟨_, List.getElem?_eq_getElem (by omega), by rw [List.getD_eq_getElem?_getD, List.getElem?_eq_getElem (by omega)]; rfl⟩
  refine call_minJ (iter_keys hs hgd hxd hdt ?_)
  refine ⟨s2.heap.objs.size, kvs.length, fun S j vb kb s => ∃ (H : Hp) (ks : List V) (i : Nat), Inv X pins σ H s ∧ W (j + 1) ks H ∧ j < kvs.length ∧ i = keyBest ds j ∧ (∃ kv, ks[i]? = some kv ∧ RelV kv kb) ∧ (∃ k v, kvs[i]? = some (k, v) ∧ RelV (kV k) vb) ∧
    FpOk X pins H S ∧ FpOk X pins H s2.heap.objs.size ∧ s.heap.IsKeyIter s2.heap.objs.size d (j + 1) kvs.length ep ∧ ∃ c, s.heap.get? S = some (pairObj vb kb c), rfl, hn, ?_⟩
  rintro S s3 rfl rfl
  have ne : s2.heap.objs.size ≠ (s2.heap.push ({ cls := .type "dict_keyiterator", data := .fields #[.ref d, .int 0 0, .int es.size 0, .int ep 0] } : Obj)).objs.size := by
    rw [Heap.size_push]
    omega
  generalize hS : (s2.heap.push ({ cls := .type "dict_keyiterator", data := .fields #[.ref d, .int 0 0, .int es.size 0, .int ep 0] } : Obj)).objs.size = S at *
  -- the key of one item, whatever stands in the list
  have turn : ∀ (j : Nat) (H : Hp) (ks : List V) (s : Shared) (so : Obj), Inv X pins σ H s → W j ks H → j < kvs.length → FpOk X pins H S → FpOk X pins H s2.heap.objs.size → s.heap.IsKeyIter s2.heap.objs.size d j kvs.length ep → s.heap.get? S = some so → (∀ v, so.data ≠ .cell v) →
      wpAny (model X.prog X.w) X.A.in1 (pyNext (.ref s2.heap.objs.size)) (fun r s1 => ∃ v, r = some v ∧ wpAny (model X.prog X.w) X.A.in1 (call (.ref f) [v]) (fun kx s4 => s4.heap.get? S = some so ∧ ∃ (H' : Hp) (key : V), Inv X pins σ H' s4 ∧ W (j + 1) (ks ++ [key]) H' ∧ RelV key kx ∧ (∃ k v', kvs[j]? = some (k, v') ∧ RelV (kV k) v) ∧
        FpOk X pins H' S ∧ FpOk X pins H' s2.heap.objs.size ∧ s4.heap.IsKeyIter s2.heap.objs.size d (j + 1) kvs.length ep) (fun _ _ => False) s1) (fun _ _ => False) s := by
    intro j H ks s so I w hj fS fI it hSo hnc
    obtain ⟨f0, f1, f2, f3, f4, f5⟩ := fI
    obtain ⟨hs', hgd', hx', es', ep', vs', hdt', hsz', kv', hm⟩ := I.frzK (Kd w)
    obtain ⟨rfl, rfl⟩ := dict_ep hdt hdt'
    obtain ⟨⟨kk, vv⟩, hkv⟩ : ∃ p, kvs[j]? = some p := ⟨kvs[j], List.getElem?_eq_getElem hj⟩
    obtain ⟨u, hu', ru⟩ := kv_get kv' hkv
    have hl' : kvs.length = vs'.length := Paired.length kv'
    rw [hl'] at it
    refine wpAny_pyNext_dict_item it hm hu' fun key h' hkey st' sb => ⟨key, rfl, ?_⟩
    have I1 : Inv X pins σ H { s with heap := h' } := I.turned (t' := s.toks) (fun b ob hb e => (sb.2 b hb).trans e) f0 f1 f3 f4 f5
    have rk : RelV (kV kk) key := relV_key (show keyIs kk key = true from hkey)
    have hSo' : h'.get? S = some so := (sb.2 S ne.symm).trans hSo
    obtain ⟨oi, eI, cI, dI⟩ := id st'
    have I2' := I1.pins_of (pins' := pins ++ [(S, so), (s2.heap.objs.size, oi)]) fun p hp => by
      rcases List.mem_append.mp hp with z | z
      · exact I1.pin p (List.mem_append_right _ z)
      · rcases List.mem_cons.mp z with z | z
        · subst z
          exact ⟨hSo', fS.1, fS.2.1, fS.2.2.1, hnc⟩
        · rw [List.mem_singleton.mp z]
          exact ⟨eI, f0, f1, f2, fun v z => by rw [dI] at z; cases z⟩
    refine wpAny_mono (lam_run1 (EE := fun _ _ => False) hq I2' L hrA I.ok.frames (Kf w) (Kc w) hx rk hbind (fun hr' => hbody _ _ _ _ hr') (step j kk vv ks H hkv w)) (fun kx s4 h4 => ?_) fun _ _ e => e
    obtain ⟨kw, H4, J4, r4, w4⟩ := h4
    have pS := J4.pin (S, so) (List.mem_append_right _ (List.mem_append_right _ List.mem_cons_self))
    have pI := J4.pin (s2.heap.objs.size, oi) (List.mem_append_right _ (List.mem_append_right _ (List.mem_cons_of_mem _ List.mem_cons_self)))
    refine ⟨pS.1, H4, kw, J4.unpinned, w4, r4, ⟨kk, vv, hkv, rk⟩, ⟨pS.2.1, fS.2⟩, ⟨pI.2.1, f1, f2, f3, f4, f5⟩, ?_⟩
    rw [hl']
    exact ⟨oi, pI.1, cI, dI⟩
  have I3 : Inv X pins σ H2 { s2 with heap := (s2.heap.push ({ cls := .type "dict_keyiterator", data := .fields #[.ref d, .int 0 0, .int es.size 0, .int ep 0] } : Obj)) } := I2.kept (t' := s2.toks) fun b ob q => Heap.get?_push_of_some _ q
  have I4 : Inv X pins σ H2 { s2 with heap := (s2.heap.push ({ cls := .type "dict_keyiterator", data := .fields #[.ref d, .int 0 0, .int es.size 0, .int ep 0] } : Obj)).push ({ cls := .type "list", data := .seq #[] 0 } : Obj) } := I3.kept (t' := s2.toks) fun b ob q => Heap.get?_push_of_some _ q
  have fS : FpOk X pins H2 S := I3.fpOk (by rw [← hS]; exact Nat.le_refl _) (I3.hok.fresh (by rw [← hS]; exact Nat.le_refl _))
  have fI : FpOk X pins H2 s2.heap.objs.size := I2.fpOk (Nat.le_refl _) (I2.hok.fresh (Nat.le_refl _))
  -- the list written anew
  have wr : ∀ {H : Hp} {s : Shared} {so : Obj} {g : Obj → Obj}, Inv X pins σ H s → FpOk X pins H S → s.heap.get? S = some so → Inv X pins σ H { s with heap := s.heap.update S g } := fun {H s so g} I f e =>
    I.turned (it := S) (t' := s.toks) (fun b o hb e => ((Heap.SameBut.update s.heap S g).2 b hb).trans e) f.1 f.2.1 f.2.2.2.1 f.2.2.2.2.1 f.2.2.2.2.2
  have wrI : ∀ {s : Shared} {so : Obj} {g : Obj → Obj} {j : Nat}, s.heap.IsKeyIter s2.heap.objs.size d j kvs.length ep → (s.heap.update S g).IsKeyIter s2.heap.objs.size d j kvs.length ep := fun {s so g j} st => st.at fun oi e => ((Heap.SameBut.update s.heap S g).2 _ ne).trans e
  refine ⟨?_, ?_, ?_, ?_⟩
  · refine wpAny_mono (turn 0 H2 [] _ _ I4 w0 hn fS fI ⟨_, Heap.get?_push_of_some _ (Heap.get?_push_size _ rfl), rfl, ?_⟩ (by rw [← hS]; exact Heap.get?_push_size _ rfl) (fun v z => by cases z)) (fun r s1 h1 => ?_) fun _ _ e => e
    · have : es.size = kvs.length := by rw [hsz, hlv]
      rw [this] <;> rfl
    · obtain ⟨v, rfl, h1⟩ := h1
      refine ⟨v, rfl, wpAny_mono h1 (fun kx s4 h4 => ?_) fun _ _ e => e⟩
      obtain ⟨hSo, H4, key, J4, w4, r4, hk4, fS4, fI4, it4⟩ := h4
      obtain ⟨c4, e4⟩ : ∃ c, (s4.heap.update S (Obj.mapSeq fun _ => #[v, kx])).get? S = some (pairObj v kx c) := ⟨_, get?_update_seq hSo (fun _ => #[v, kx])⟩
      exact ⟨⟨_, hSo⟩, H4, [key], 0, wr J4 fS4 hSo, w4, hn, rfl, ⟨key, rfl, r4⟩, hk4, fS4, fI4, wrI (so := pairObj v kx c4) it4, c4, e4⟩
  · rintro j vb kb s ⟨H, ks, i, _, _, _, _, _, _, _, _, _, hc⟩
    exact hc
  · rintro j vb kb s hj ⟨H, ks, i, I, w, hj', hi, ⟨kx0, hkx, rkx⟩, hkb, fS1, fI1, it1, c1, e1⟩
    refine wpAny_mono (turn (j + 1) H ks s _ I w hj fS1 fI1 it1 e1 (fun v z => by cases z)) (fun r s1 h1 => ?_) fun _ _ e => e
    obtain ⟨v, rfl, h1⟩ := h1
    refine ⟨v, rfl, wpAny_mono h1 (fun kx s4 h4 => ?_) fun _ _ e => e⟩
    obtain ⟨hSo, H4, key, J4, w4, r4, hk4, fS4, fI4, it4⟩ := h4
    have dA := (wk _ _ _ w4).2
    have lks : ks.length = j + 1 := by
      have := dpAll_len (wk _ _ _ w).2
      rw [this, List.length_take]
      omega
    have li : i ≤ j := by rw [hi]; exact argBest_le' _ _
    obtain ⟨ei, hei, gi⟩ := dsget (show i < kvs.length by omega)
    obtain ⟨ej, hej, gj⟩ := dsget hj
    have d1 : Dp X.K H4 key ej := dpAll_get dA (i := j + 1) (by rw [← lks, List.getElem?_append_right (Nat.le_refl _), Nat.sub_self]; rfl) (by rw [List.getElem?_take, if_pos (by omega)]; exact hej)
    have d0 : Dp X.K H4 kx0 ei := dpAll_get dA (i := i) (by rw [List.getElem?_append_left (by omega)]; exact hkx) (by rw [List.getElem?_take, if_pos (by omega)]; exact hei)
    obtain ⟨as1, rd1⟩ := Dp.reads J4 ej key kx d1 r4
    obtain ⟨as0, rd0⟩ := Dp.reads J4 ei kx0 kb d0 rkx
    have mj := List.mem_of_getElem? hej
    have mi := List.mem_of_getElem? hei
    refine ⟨⟨_, hSo⟩, PySem.W.lt_data rd1 rd0 (hal _ mj _ mi) (hdp _ mj).1 (by have := (hdp _ mj).2; show X.A.units + 1 + _ < _; omega) ⟨rfl, _, rfl, fun hb => ?_, fun hb => ?_⟩⟩
    · obtain ⟨c4, e4⟩ : ∃ c, (s4.heap.update S (Obj.mapSeq fun _ => #[v, kx])).get? S = some (pairObj v kx c) := ⟨_, get?_update_seq hSo (fun _ => #[v, kx])⟩
      refine ⟨H4, ks ++ [key], j + 1, wr J4 fS4 hSo, w4, hj, ?_, ⟨key, ?_, r4⟩, hk4, fS4, fI4, wrI (so := pairObj v kx c4) it4, c4, e4⟩
      · unfold keyBest PySem.argBest
        rw [show PySem.argBest (fun i j => PySem.W.dataLt (ds.getD i PyData.none) (ds.getD j PyData.none)) j = i from hi.symm, gi, gj, if_pos hb]
      · rw [← lks, List.getElem?_append_right (Nat.le_refl _), Nat.sub_self]; rfl
    · refine ⟨H4, ks ++ [key], i, J4, w4, hj, ?_, ⟨kx0, ?_, rkx⟩, hkb, fS4, fI4, it4, _, hSo⟩
      · unfold keyBest PySem.argBest
        rw [show PySem.argBest (fun i j => PySem.W.dataLt (ds.getD i PyData.none) (ds.getD j PyData.none)) j = i from hi.symm, gi, gj, if_neg (by rw [hb]; decide)]
      · rw [List.getElem?_append_left (by omega)]
        exact hkx
  · rintro vb kb s ⟨H, ks, i, I, w, hj', hi, ⟨kx0, hkx, rkx⟩, ⟨kk, vv, hkv, rkv⟩, fS1, fI1, it1, c1, e1⟩
    have en : kvs.length - 1 + 1 = kvs.length := by omega
    rw [en] at w it1
    obtain ⟨f0, f1, f2, f3, f4, f5⟩ := fI1
    obtain ⟨hs', hgd', hx', es', ep', vs', hdt', hsz', kv', hm⟩ := I.frzK (Kd w)
    obtain ⟨rfl, rfl⟩ := dict_ep hdt hdt'
    have hl' : kvs.length = vs'.length := Paired.length kv'
    refine next_key_end (I.ok.hd hc) it1 hgd' hdt' (by rw [hsz', hl']) (Nat.le_refl _) fun h' eb => ?_
    have I1 : Inv X pins σ H { s with heap := h' } := I.turned (t' := s.toks) (fun b ob hb e => eb b ob hb e) f0 f1 f3 f4 f5
    have e1' : h'.get? S = some (pairObj vb kb c1) := eb S _ ne.symm e1
    refine ⟨rfl, ⟨c1, e1'⟩, kV kk, H, wr I1 fS1 e1', rkv, fin ks H kk vv w (by rw [← hi]; exact hkv)⟩
end
end Mz

set_option Elab.async false
set_option linter.all false
set_option maxRecDepth 100000
set_option maxHeartbeats 4000000
/-! enumerate of a tuple -/
namespace Mz
open PySem PySem.Spec PyProof.Rows L2
theorem enumT_made (t : Addr) (items : Array Value) (n : Nat) (dct : Option Addr) (sl : Array (Option Value)) :
    Meets (Builtin.«enumerate.__new__» ⟨[.type "enumerate", .ref t], []⟩) (fun _ R s => s.heap.get? t = some { cls := .type "tuple", dict := dct, data := .seq items n, slots := sl } ∧
      R (.ok (.ret (.ref (s.heap.push { cls := .type "tuple_iterator", data := .fields #[.ref t, .int 0 0] }).objs.size)))
        { s with heap := (s.heap.push { cls := .type "tuple_iterator", data := .fields #[.ref t, .int 0 0] }).push { cls := .type "enumerate", data := .fields #[.none, .bool false, .ref s.heap.objs.size, rawInt 0, .none, .none] } }) :=
  .of_wp fun prog w A R s h => by
    obtain ⟨hp, g, d, tk, os⟩ := s
    obtain ⟨ht, r⟩ := h
    have sub := sub_enumerate
    have isT : Heap.IsTuple (Shared.heap ⟨hp, g, d, tk, os⟩) t items := ⟨_, ht, rfl, n, rfl⟩
    wp_walk using AutoSeq1.wpAny_loadPart' ht
    refine wpAny_stack_any fun st => wpAny_pure ?_
    split
    · rename_i c _ _ _ _ _
      cases (c == Value.type "enumerate")
      · wp_walk using AutoSeq1.wpAny_loadPart' ht, wpAny_pyIter_tuple isT
        exact ⟨_, rfl, r⟩
      · wp_walk using AutoSeq1.wpAny_loadPart' ht, wpAny_pyIter_tuple isT
        exact ⟨_, rfl, r⟩
    · wp_walk using AutoSeq1.wpAny_loadPart' ht, wpAny_pyIter_tuple isT
      exact ⟨_, rfl, r⟩
theorem call_enumT {prog : Program} {w : World} {A : Around} {E : Value → Shared → Prop} {s : Shared} {t : Addr} {items : Array Value} {Q : Value → Shared → Prop} (isT : s.heap.IsTuple t items)
    (k : ∀ g, IsEnum g (s.heap.objs.size + 1) s.heap.objs.size 0 .none → g.IsTupleIter s.heap.objs.size t 0 → (∀ b o, s.heap.get? b = some o → g.get? b = some o) → Q (.ref (s.heap.objs.size + 1)) { s with heap := g }) :
    wpAny (model prog w) A (call (.type "enumerate") [.ref t]) Q E s := by
  obtain ⟨⟨c, dct, dt, sl⟩, at_, hc, n, hd⟩ := isT
  obtain rfl : c = .type "tuple" := hc
  obtain rfl : dt = .seq items n := hd
  refine callType_new PySem.F.called_enumerate (by decide) (PySem.F.typeCall_enumerate_1 _) (PySem.F.newCall_enumerate_1 _) (fun obj => PySem.F.args_object_init_2 obj _) PySem.F.entry_enumerate_new (enumT_made t items n dct sl) ⟨at_, ?_⟩
  have size1 : (s.heap.push { cls := .type "tuple_iterator", data := .fields #[.ref t, .int 0 0] }).objs.size = s.heap.objs.size + 1 := Heap.size_push ..
  show _ ∧ _
  rw [size1]
  have en : IsEnum ((s.heap.push { cls := .type "tuple_iterator", data := .fields #[.ref t, .int 0 0] }).push { cls := .type "enumerate", data := .fields #[.none, .bool false, .ref s.heap.objs.size, rawInt 0, .none, .none] }) (s.heap.objs.size + 1) s.heap.objs.size 0 .none := by
    have z := Heap.get?_push_size (s.heap.push { cls := .type "tuple_iterator", data := .fields #[.ref t, .int 0 0] }) (o := { cls := .type "enumerate", data := .fields #[.none, .bool false, .ref s.heap.objs.size, rawInt 0, .none, .none] }) rfl
    rw [size1] at z
    exact z
  exact ⟨⟨_, en, rfl⟩, k _ en ⟨_, Heap.get?_push_of_some _ (Heap.get?_push_size _ rfl), rfl, rfl⟩ fun b o e => Heap.get?_push_of_some _ (Heap.get?_push_of_some _ e)⟩
/-- the tuple at a, each item in a new pair -/
def IteT (K : PySem.W.Frag) (a : Addr) : It :=
  ⟨fun i H => ∃ (xs : List V) (x : V), SqT K H a xs ∧ xs[i]? = some x, fun i H v H' => ∃ T x, v = .ref T ∧ H T = none ∧ H' = upd H T (.tup [.int (i : Nat), x]) ∧ ∀ xs, SqT K H a xs → xs[i]? = some x, fun i H => ∃ xs : List V, SqT K H a xs ∧ xs.length ≤ i⟩
theorem turn_enumT {P : Program} {w : World} {K : PySem.W.Frag} {elts : List Expr} {kk : Nat} {tpos : Pos} (a e it : Addr) :
    Turn P w K (.Tuple elts kk tpos) (IteT K a) [e, it] e (fun i h => (∃ old, IsEnum h e it ((i : Nat) : Int) old) ∧ h.IsTupleIter it a i ∧ e ≠ it ∧ e ≠ a ∧ a ≠ it) where
  mem := by simp
  obj := fun i h ⟨⟨old, en⟩, ⟨o, at_, _, dat⟩, _⟩ b hb => by
    rcases List.mem_cons.mp hb with z | z
    · rw [z]
      exact ⟨_, en, fun v q => nomatch q⟩
    · rw [List.mem_singleton.mp z]
      exact ⟨o, at_, fun v q => by rw [dat] at q; cases q⟩
  keep := fun i h h' ⟨⟨old, en⟩, ti, rest⟩ k => ⟨⟨old, k e (by simp) _ en⟩, ti.at fun o q => k it (by simp) o q, rest⟩
  item := by
    rintro X rfl rfl rfl calm i pins s σ H E I free ⟨⟨old, en⟩, ti, ne, nea, nai⟩ ⟨xs, x, hq, hx⟩
    obtain ⟨its, rv, p, _⟩ := I.tuple hq
    obtain ⟨u, hu, ru⟩ := rv.get hx
    have tp : s.heap.IsTuple a its.toArray := p
    have ilt : i < its.toArray.size := by
      have := (List.getElem?_eq_some_iff.mp hu).1
      simpa using this
    have elt : e < s.heap.objs.size := Heap.lt_size en
    have tlt : it < s.heap.objs.size := by
      obtain ⟨_, q, _⟩ := ti
      exact Heap.lt_size q
    refine wpAny_pyNext_enum_itemD (Draws.tuple (A := X.A.in1) (I.ok.hd calm) it a nai its.toArray) en ⟨ti, tp⟩ ilt ne (by simp [ne, nea]) fun x' g tk hx' eo st' hT sz kp => ?_
    have ex : x' = u := by
      have q : its.toArray[i]? = some u := by simpa using hu
      rw [q] at hx'
      exact (Option.some.inj hx').symm
    subst ex
    refine ⟨_, rfl, wpAny_letOwnedTupleGo_enum (s := { s with heap := g, toks := tk + 1 }) eo fun g2 en2 sb => ?_⟩
    have hT2 : g2.get? s.heap.objs.size = some { cls := .type "tuple", data := .seq #[.int i tk, x'] } := (sb.2 _ (Nat.ne_of_gt elt)).trans hT
    have new : ObjOk X.prog X.w (upd H s.heap.objs.size (.tup [.int (i : Nat), x])) g2 s.heap.objs.size (.tup [.int (i : Nat), x]) :=
      ⟨by show 2 ≤ sizeLine; decide, [.int i tk, x'], .cons ⟨_, rfl⟩ (.cons ru .nil), ⟨_, hT2, rfl, _, rfl⟩⟩
    have J : Inv X pins σ (upd H s.heap.objs.size (.tup [.int (i : Nat), x])) { s with heap := g2, toks := tk + 1 } :=
      I.turnedNew (ch := [e, it]) (fun b ob hb q => (sb.2 b (fun z => hb (by simp [z]))).trans (kp b ob (fun z => hb (by simp [z])) (fun z => hb (by simp [z])) q)) free (Nat.le_refl _) new
    refine ⟨.ref s.heap.objs.size, _, J, rfl, ⟨_, x, rfl, I.hok.fresh (Nat.le_refl _), rfl, fun ys hy => by rw [I.tuple_inj hy hq]; exact hx⟩, ⟨⟨x', ?_⟩, st'.1.at fun o q => (sb.2 it (Ne.symm ne)).trans q, ne, nea, nai⟩, fun b hb => ?_⟩
    · rw [show ((i + 1 : Nat) : Int) = (i : Int) + 1 by omega]
      exact en2
    · have lt : b < s.heap.objs.size := by
        rcases List.mem_cons.mp hb with z | z
        · rw [z]
          exact elt
        · rw [List.mem_singleton.mp z]
          exact tlt
      rw [upd_ne (Nat.ne_of_lt lt)]
      exact (free b hb).1
  done := by
    rintro X rfl rfl rfl calm i pins s σ H E I free ⟨⟨old, en⟩, ti, ne, nea, nai⟩ ⟨xs, hq, hx⟩
    obtain ⟨its, rv, p, _⟩ := I.tuple hq
    obtain ⟨f0, f1, f2, f3, f4, f5⟩ := free it (by simp)
    have tp : s.heap.IsTuple a its.toArray := p
    have len := rv.length
    have past : its.toArray[i]? = none := by simp; omega
    have kind : s.TypeIs (.ref e) "enumerate" := ⟨_, en, rfl⟩
    have stop : wpAny (model X.prog X.w) X.A.in1 (Builtin.SmallTypes.nextOf (.ref it)) (fun _ _ => False) (fun x s' => ∃ g, x = x ∧ s' = { s with heap := g } ∧ Heap.ExtBut it s.heap g ∧ ∃ e', x = .ref e' ∧ ∃ o, g.get? e' = some o ∧ o.cls = .type "StopIteration") s :=
      wpAny_nextOf_tuple_end (I.ok.hd calm) ti tp past fun g e' eb ⟨o, q1, q2⟩ => ⟨g, rfl, rfl, eb, e', rfl, o, q1, q2⟩
    unfold pyNext
    refine wpAny_bind (wpAny_attempt (wpAny_callSpecial?_slot (name := Str.ofString "__next__") kind PySem.F.slot_enumerate_next (wpAny_call_entry PySem.F.slot_enumerate_next kind PySem.F.entry_enumerate_next ?_ (PySem.F.args_enumerate_next_1 _))))
    show wpAny _ _ (field (.ref e) 2 >>= _) _ _ _
    refine wpAny_bind (wpAny_field en rfl (x := .ref it) rfl (wpAny_bind (wpAny_mono stop (fun _ _ z => z.elim) ?_)))
    rintro x s' ⟨g, _, rfl, eb, e', rfl, o, q1, q2⟩
    refine wpAny_bind (wpAny_isInstance (T := "StopIteration") (b := true) ⟨o, q1, q2⟩ isSubtype_stop ?_)
    exact wpAny_pure ⟨rfl, I.turned (t' := s.toks) (fun b o hb q => eb b o hb q) f0 f1 f3 f4 f5⟩
  self := fun A i s Q E ⟨⟨_, en⟩, _⟩ h => wpAny_pyIter_enum en h
def iEnumT (K : PySem.W.Frag) (ta : TA) : TI := fun σ H R => ta σ H fun vs H1 => ∃ a, vs = [.ref a] ∧ ((∃ xs, SqL K H1 a xs) ∧ R (Ite K a) H1 ∨ (∃ xs, SqT K H1 a xs) ∧ R (IteT K a) H1)
/-- for i, x in enumerate(e), e a list or a tuple -/
theorem pi_enumT {X : Cx} {e : Expr} {ta : TA} {p pos tpos : Pos} {elts : List Expr} {kk : Nat} (hg : Gl X "enumerate") (hm : X.mg "enumerate" = none) (ha : PA X [e] ta) (hs : starEach [e] X.env = [(false, eval e X.env)] := by rfl) :
    PI X (.Tuple elts kk tpos) (.Call (.Name "enumerate" p) [e] [] pos) (iEnumT X.K ta) := by
  refine ⟨fun pins s σ H R I h => Call_ (ld_blt I hg hm boot_enumerate (PyProof.Rows.callWith_type1 (thn (ha.run pos pins s σ H _ I h) fun us s1 ⟨vs, H1, I1, r1, a, ev, q⟩ => ?_) hs rfl))⟩
  subst ev
  obtain ⟨u, rfl, rfl⟩ := vals1 r1
  have below : ∀ b ∈ [s1.heap.objs.size + 1, s1.heap.objs.size], FpOk X pins H1 b := fun b hb => by
    have le : s1.heap.objs.size ≤ b := by
      rcases List.mem_cons.mp hb with z | z
      · omega
      · rw [List.mem_singleton.mp z]
        exact Nat.le_refl _
    exact I1.fpOk le (I1.hok.fresh le)
  rcases q with ⟨⟨xs, hq⟩, q⟩ | ⟨⟨xs, hq⟩, q⟩
  · obtain ⟨its, rv, pl, _⟩ := I1.list hq
    refine call_enumerate_list pl.isList fun g en ti _ kp => wpAny_pyIter_enum en ?_
    exact ⟨_, [s1.heap.objs.size + 1, s1.heap.objs.size], _, _, H1, rfl, I1.kept (t' := s1.toks) kp, turn_enum a _ _, ⟨⟨.none, en⟩, ti, Nat.succ_ne_self _⟩, below, q⟩
  · obtain ⟨its, rv, pl, _⟩ := I1.tuple hq
    have tp : s1.heap.IsTuple a its.toArray := pl
    have alt : a < s1.heap.objs.size := by
      obtain ⟨o, q, _⟩ := id tp
      exact Heap.lt_size q
    refine call_enumT tp fun g en ti kp => wpAny_pyIter_enum en ?_
    exact ⟨_, [s1.heap.objs.size + 1, s1.heap.objs.size], _, _, H1, rfl, I1.kept (t' := s1.toks) kp, turn_enumT a _ _, ⟨⟨.none, en⟩, ti, Nat.succ_ne_self _, Nat.ne_of_gt (Nat.lt_succ_of_lt alt), Nat.ne_of_lt alt⟩, below, q⟩
end Mz

set_option Elab.async false
set_option linter.all false
set_option maxRecDepth 100000
set_option maxHeartbeats 4000000
/-! dicts from (int, (ints)) to ints -/
namespace Mz
open PySem PySem.Spec PyProof.Rows L2
abbrev PK := Int × List Int
def nk (p : PK) : NestedKey := .tup [.num p.1, .tup (p.2.map .num)]
theorem nums_inj : ∀ {a b : List Int}, a.map NestedKey.num = b.map NestedKey.num → a = b
  | [], [], _ => rfl
  | [], _ :: _, h => by simp at h
  | _ :: _, [], h => by simp at h
  | x :: a, y :: b, h => by
    rw [List.map_cons, List.map_cons] at h
    injection h with h1 h2
    injection h1 with h1
    rw [h1, nums_inj h2]
theorem nk_inj {p q : PK} (h : nk p = nk q) : p = q := by
  unfold nk at h
  injection h with h
  injection h with h1 h2
  injection h1 with h1
  injection h2 with h2 _
  injection h2 with h2
  exact Prod.ext h1 (nums_inj h2)
abbrev Ent := PK × Addr × Value
def rawE (x : Ent) : NestedKey × Addr × Value := (nk x.1, x.2)
/-- such a dict, as its own object tells it -/
def NestO (P : Program) (w : World) (d : Addr) (xs : List Ent) : HO := .ext fun h => (d == sysModules) = false ∧ xs.length ≤ sizeLine ∧
  ∃ o es ep, h.get? d = some o ∧ o.ExactDict ∧ o.data = .dict es ep ∧ es.toList = (xs.map rawE).map (entryOfKey (nestedKind P w)) ∧ (xs.map (·.1)).Nodup
/-- the key p stands at a -/
def KeyAt (H : Hp) (a : Addr) (p : PK) : Prop := ∃ b, H a = some (.tup [.int p.1, .ref b]) ∧ H b = some (.tup (p.2.map V.int))
theorem KeyAt.same {H H' : Hp} {a : Addr} {p : PK} (k : KeyAt H a p) (s : Same H H') : KeyAt H' a p := let ⟨b, h1, h2⟩ := k; ⟨b, s _ _ h1, s _ _ h2⟩
theorem nums_all {h : Heap} : ∀ {ns : List Int} {its : List Value}, Vals (ns.map V.int) its → NestedAll h (ns.map .num) its
  | [], _, .nil => .nil
  | n :: ns, _, .cons r t => by
    obtain ⟨k, rfl⟩ := (show ∃ k, _ = Value.int n k from r)
    exact .cons (.int n k) (nums_all t)
theorem nums_depth : ∀ ns : List Int, NestedKey.depthAll (ns.map .num) ≤ 1
  | [] => by simp [NestedKey.depthAll]
  | n :: ns => by
    have := nums_depth ns
    simp [NestedKey.depthAll, NestedKey.depth]
    omega
section
variable {P : Program} {w : World} {H : Hp} {h : Heap} {d : Addr}
theorem key_nest (ok : HOk P w H h) {a : Addr} {p : PK} (k : KeyAt H a p) : (nestedKind P w).is h (nk p) a := by
  obtain ⟨b, h1, h2⟩ := k
  obtain ⟨_, its, rv, o, e1, e2, n, e3⟩ := (show ObjOk P w H h a (.tup _) from ok a _ h1)
  obtain ⟨_, its2, rv2, o2, f1, f2, n2, f3⟩ := (show ObjOk P w H h b (.tup _) from ok b _ h2)
  refine ⟨.tup e1 e2 e3 ?_, ?_⟩
  · cases rv with
    | cons r t =>
      cases t with
      | cons r2 t =>
        cases t
        obtain ⟨k, rfl⟩ := (show ∃ k, _ = Value.int p.1 k from r)
        cases (show _ = Value.ref b from r2)
        refine .cons (.int _ _) (.cons (.tup f1 f2 f3 ?_) .nil)
        simpa using nums_all rv2
  · have := nums_depth p.2
    simp [nk, NestedKey.depth, NestedKey.depthAll]
    omega
theorem nest_nodup {xs : List Ent} (h : (xs.map (·.1)).Nodup) : ((xs.map rawE).map (·.1)).Nodup := by
  have e : (xs.map rawE).map (·.1) = (xs.map (·.1)).map nk := by
    rw [List.map_map, List.map_map]
    rfl
  rw [e]
  exact List.Pairwise.map _ (fun a b n z => n (nk_inj z)) h
theorem nest_of (ok : HOk P w H h) {xs : List Ent} (e : H d = some (NestO P w d xs)) (ks : ∀ x ∈ xs, KeyAt H x.2.1 x.1) : (d == sysModules) = false ∧ xs.length ≤ sizeLine ∧ h.DictOfH (nestedKind P w) d (xs.map rawE) := by
  obtain ⟨⟨a, b, o, es, ep, h1, h2, h3, h4, h5⟩, _⟩ := (show ObjOk P w H h d (NestO P w d xs) from ok d _ e)
  refine ⟨a, b, o, es, ep, h1, h2, h3, h4, fun x hx => ?_, nest_nodup h5⟩
  obtain ⟨y, hy, rfl⟩ := List.mem_map.mp hx
  exact key_nest ok (ks y hy)
theorem nest_ok {xs : List Ent} (hd : (d == sysModules) = false) (z : xs.length ≤ sizeLine) (n : (xs.map (·.1)).Nodup) (D : h.DictOfH (nestedKind P w) d (xs.map rawE)) : ObjOk P w H h d (NestO P w d xs) := by
  obtain ⟨o, es, ep, h1, h2, h3, h4, _, _⟩ := D
  refine ⟨⟨hd, z, o, es, ep, h1, h2, h3, h4, n⟩, ⟨o, h1⟩, fun g1 g2 ⟨a, b, o1, es1, ep1, k1, k2, k3, k4, k5⟩ kp => ⟨a, b, o1, es1, ep1, kp _ k1, k2, k3, k4, k5⟩⟩
end
/-- the dict's content, key by key -/
structure NestD (P : Program) (w : World) (H : Hp) (d : Addr) (kvs : List (PK × Int)) : Prop where
  ex : ∃ xs : List Ent, H d = some (NestO P w d xs) ∧ (∀ x ∈ xs, KeyAt H x.2.1 x.1) ∧ Paired (fun (kv : PK × Int) x => kv.1 = x.1 ∧ ∃ t, x.2.2 = Value.int kv.2 t) kvs xs
def findK (kvs : List (PK × Int)) (p : PK) : Option Int := (kvs.find? fun kv => decide (kv.1 = p)).map (·.2)
theorem findK_at {p : PK} : ∀ {kvs : List (PK × Int)} {xs : List Ent}, Paired (fun (kv : PK × Int) x => kv.1 = x.1 ∧ ∃ t, x.2.2 = Value.int kv.2 t) kvs xs →
    (∀ v, findK kvs p = some v → ∃ a t, atKey (xs.map rawE) (nk p) = some (a, Value.int v t)) ∧ (findK kvs p = none → atKey (xs.map rawE) (nk p) = none)
  | [], [], _ => ⟨fun v h => (by cases h), fun _ => rfl⟩
  | kv :: kvs, x :: xs, .cons r t => by
    obtain ⟨ih1, ih2⟩ := findK_at (p := p) t
    obtain ⟨r1, k, r2⟩ := r
    by_cases c : kv.1 = p
    · have e1 : findK (kv :: kvs) p = some kv.2 := by simp [findK, List.find?_cons, c]
      rw [e1]
      refine ⟨fun v hv => ?_, fun hv => (by cases hv)⟩
      cases hv
      refine ⟨x.2.1, k, ?_⟩
      have e2 : (rawE x).1 = nk p := by
        show nk x.1 = nk p
        rw [← r1, c]
      unfold atKey
      rw [List.map_cons, List.find?_cons, decide_eq_true e2]
      show some (x.2.1, x.2.2) = _
      rw [r2]
    · have e1 : findK (kv :: kvs) p = findK kvs p := by simp [findK, List.find?_cons, c]
      have e2 : ¬ (rawE x).1 = nk p := fun z => c (r1.trans (nk_inj z))
      have e3 : atKey ((x :: xs).map rawE) (nk p) = atKey (xs.map rawE) (nk p) := by
        unfold atKey
        rw [List.map_cons, List.find?_cons, decide_eq_false e2]
      rw [e1, e3]
      exact ⟨ih1, ih2⟩
section
variable {P : Program} {w : World} {H H' : Hp} {d : Addr} {kvs : List (PK × Int)}
theorem NestD.same (n : NestD P w H d kvs) (s : Same H H') : NestD P w H' d kvs := by
  obtain ⟨xs, e, ks, r⟩ := n.ex
  exact ⟨xs, s _ _ e, fun x hx => (ks x hx).same s, r⟩
theorem NestD.new (h : H d = none) : NestD P w (upd H d (NestO P w d [])) d [] := ⟨[], upd_same, fun x hx => absurd hx (by simp), .nil⟩
theorem NestD.len (n : NestD P w H d kvs) : ∃ xs : List Ent, xs.length = kvs.length ∧ H d = some (NestO P w d xs) := by
  obtain ⟨xs, e, _, r⟩ := n.ex
  exact ⟨xs, (Paired.length r).symm, e⟩
end
/-- d[key] -/
theorem nest_get {X : Cx} {pins : List (Addr × Obj)} {σ : L2.St} {H : Hp} {s : Shared} {A : Around} {E : Value → Shared → Prop} {d a : Addr} {kvs : List (PK × Int)} {p : PK} {v : Int} {Q : Value → Shared → Prop} (hu : A.units + 10 < cLine)
    (I : Inv X pins σ H s) (n : NestD X.prog X.w H d kvs) (ka : KeyAt H a p) (f : findK kvs p = some v) (q : ∀ u s', Inv X pins σ H s' → RelV (.int v) u → Q u s') : wpAny (model X.prog X.w) A (getItem (.ref d) (.ref a)) Q E s := by
  obtain ⟨xs, e, ks, r⟩ := n.ex
  obtain ⟨_, _, D⟩ := nest_of I.hok e ks
  obtain ⟨b, t, f2⟩ := (findK_at r).1 v f
  exact wpAny_getItem_heap (knd := nestedKind X.prog X.w) (show A.in1.units + 8 < cLine by show A.units + 1 + 8 < cLine; omega) (key_nest I.hok ka) D f2 (q _ _ (I.tok _) ⟨t, rfl⟩)
/-- d.setdefault(key, z) -/
theorem nest_set {X : Cx} {pins : List (Addr × Obj)} {σ : L2.St} {H : Hp} {s : Shared} {A : Around} {E : Value → Shared → Prop} {d a : Addr} {kvs : List (PK × Int)} {p : PK} {z : Int} {r : Value} {Q : Value → Shared → Prop} (hu : A.units + 10 < cLine) (hl : kvs.length < sizeLine)
    (I : Inv X pins σ H s) (n : NestD X.prog X.w H d kvs) (ka : KeyAt H a p) (rz : RelV (.int z) r) (old : ∀ v, findK kvs p = some v → ∀ u s', Inv X pins σ H s' → RelV (.int v) u → Q u s')
    (new : findK kvs p = none → ∀ xs' s', NestD X.prog X.w (upd H d (NestO X.prog X.w d xs')) d (kvs ++ [(p, z)]) → Inv X pins σ (upd H d (NestO X.prog X.w d xs')) s' → Q r s') : wpAny (model X.prog X.w) A (call (.builtin "dict.setdefault") [.ref d, .ref a, r]) Q E s := by
  obtain ⟨xs, e, ks, rel⟩ := n.ex
  obtain ⟨hd, hz, D⟩ := nest_of I.hok e ks
  have hlx : xs.length = kvs.length := (Paired.length rel).symm
  refine call_setdefault_heap (knd := nestedKind X.prog X.w) (hsz := by rw [List.length_map]; exact hz) (show A.in1.units + 8 < cLine by show A.units + 1 + 8 < cLine; omega) (key_nest I.hok ka) hd D (fun pr hp => ?_) (fun hn h' D' sb => ?_)
  · cases f : findK kvs p with
    | none =>
      rw [(findK_at rel).2 f] at hp
      cases hp
    | some v =>
      obtain ⟨b, t, f2⟩ := (findK_at rel).1 v f
      rw [f2] at hp
      cases hp
      exact old v f _ _ (I.tok _) ⟨t, rfl⟩
  · cases f : findK kvs p with
    | some v =>
      obtain ⟨b, t, f2⟩ := (findK_at rel).1 v f
      rw [f2] at hn
      cases hn
    | none =>
      obtain ⟨t, rfl⟩ := (show ∃ t, r = Value.int z t from rz)
      have e1 : storedH (xs.map rawE) (nk p) a (Value.int z t) = (xs ++ [(p, a, Value.int z t)]).map rawE := by
        rw [storedH_new hn, List.map_append]
        rfl
      rw [e1] at D'
      have nod : ((xs ++ [(p, a, Value.int z t)]).map (·.1)).Nodup := by
        obtain ⟨⟨_, _, _, _, _, _, _, _, _, k5⟩, _⟩ := (show ObjOk X.prog X.w H s.heap d (NestO X.prog X.w d xs) from I.hok d _ e)
        rw [List.map_append]
        refine List.nodup_append.mpr ⟨k5, by simp, fun y hy q hq => ?_⟩
        simp at hq
        rw [hq]
        rintro rfl
        obtain ⟨x, hx, e3⟩ := List.mem_map.mp hy
        obtain ⟨j, hj, e4⟩ := List.getElem_of_mem hx
        unfold atKey at hn
        rw [Option.map_eq_none_iff, List.find?_eq_none] at hn
        have := hn (rawE x) (List.mem_map.mpr ⟨x, hx, rfl⟩)
        simp [rawE, e3] at this
      have he : ∃ o, h'.get? d = some o := let ⟨o, _, _, k, _⟩ := D'; ⟨o, k⟩
      have hz2 : (xs ++ [(p, a, Value.int z t)]).length ≤ sizeLine := by
        rw [List.length_append, List.length_singleton]
        omega
      have nd : NestD X.prog X.w (upd H d (NestO X.prog X.w d (xs ++ [(p, a, Value.int z t)]))) d (kvs ++ [(p, z)]) := by
        have kt : ∀ {b : Addr} {q : PK}, KeyAt H b q → KeyAt (upd H d (NestO X.prog X.w d (xs ++ [(p, a, Value.int z t)]))) b q := fun {b q} ⟨c, k1, k2⟩ => by
          refine ⟨c, ?_, ?_⟩
          · rw [upd_ne fun z => ?_]
            · exact k1
            · rw [z, e] at k1
              cases k1
          · rw [upd_ne fun z => ?_]
            · exact k2
            · rw [z, e] at k2
              cases k2
        refine ⟨_, upd_same, fun x hx => ?_, ?_⟩
        · rcases List.mem_append.mp hx with q | q
          · exact kt (ks x q)
          · rw [List.mem_singleton.mp q]
            exact kt ka
        · have app : ∀ {l1 : List (PK × Int)} {l2 : List Ent}, Paired (fun (kv : PK × Int) (x : Ent) => kv.1 = x.1 ∧ ∃ t, x.2.2 = Value.int kv.2 t) l1 l2 → Paired (fun (kv : PK × Int) (x : Ent) => kv.1 = x.1 ∧ ∃ t, x.2.2 = Value.int kv.2 t) (l1 ++ [(p, z)]) (l2 ++ [(p, a, Value.int z t)]) := by
            intro l1 l2 hp
            induction hp with
            | nil => exact .cons ⟨rfl, t, rfl⟩ .nil
            | cons h _ ih => exact .cons h ih
          exact app rel
      exact new f _ _ nd (d_write (t' := s.toks + (nestedKind X.prog X.w).draws (nk p)) I (by rw [e]; exact True.intro) sb he (nest_ok hd hz2 nod D'))
/-! ### the rules: a dict of ints, or of such keys -/
def tNewKN (P : Program) (w : World) : TE := fun _ H Q => (∀ p, H p = none → Q (.ref p) (upd H p (.dK []))) ∨ ∀ p, H p = none → Q (.ref p) (upd H p (NestO P w p []))
theorem pe_dnewKN {X : Cx} {pos : Pos} : PE X (.Dict [] [] pos) (tNewKN X.prog X.w) := by
  refine ⟨fun pins s σ H Q I h => ?_⟩
  rcases h with h | h
  · exact pe_dnewK.run pins s σ H Q I h
  · have hb : sysModules < s.heap.objs.size := I.big
    have ok : ObjOk X.prog X.w (upd H s.heap.objs.size (NestO X.prog X.w s.heap.objs.size [])) (s.heap.push { cls := .type "dict", data := .dict #[] }) s.heap.objs.size (NestO X.prog X.w s.heap.objs.size []) :=
      nest_ok (beq_eq_false_iff_ne.mpr (Ne.symm (Nat.ne_of_lt hb))) (Nat.zero_le _) List.nodup_nil ⟨_, #[], 0, Heap.get?_push_size _ rfl, ⟨rfl, rfl, rfl⟩, rfl, rfl, fun x hx => absurd hx (by simp), List.nodup_nil⟩
    exact wpAny_Dict_empty ⟨.ref s.heap.objs.size, _, I.laid (a := s.heap.objs.size) (o := NestO X.prog X.w s.heap.objs.size []) (t' := s.toks) (fun _ _ q => Heap.get?_push_of_some _ q) (Nat.le_refl _) ok, rfl, h _ (I.hok.fresh (Nat.le_refl _))⟩
def tGetKN (P : Program) (w : World) (td ty : TE) : TE := fun σ H Q => td σ H fun x H1 => ty σ H1 fun y H2 => (∃ a v, x = .ref a ∧ DGet H2 a y (some v) ∧ Q v H2) ∨
  ∃ (d a : Addr) (kvs : List (PK × Int)) (p : PK) (v : Int), x = .ref d ∧ y = .ref a ∧ NestD P w H2 d kvs ∧ KeyAt H2 a p ∧ findK kvs p = some v ∧ Q (.int v) H2
theorem pe_dgetKN {X : Cx} {o i : Expr} {pos : Pos} {td ty : TE} (hu : X.A.units + 10 < cLine) (ho : PE X o td) (hi : PE X i ty) (hs : NoSl i) : PE X (.Subscript o i pos) (tGetKN X.prog X.w td ty) := by
  refine ⟨fun pins s σ H Q I h => ?_⟩
  refine subD_of PySem.F.slot_dict_getitem.lookup hs (thn (ho.run pins s σ H _ I h) fun u s1 ⟨x, H1, I1, rx, q1⟩ => thn (hi.run pins s1 σ H1 _ I1 q1) fun iv s2 ⟨y, H2, I2, ry, q2⟩ => ?_)
  rcases q2 with ⟨a, v, rfl, g, q⟩ | ⟨d, a, kvs, p, v, rfl, rfl, n, ka, f, q⟩
  · obtain rfl : u = Value.ref a := rx
    exact ⟨dict_typeIs I2 g, d_getItem (by omega) I2 g ry fun w' s3 I3 rw' => ⟨v, H2, I3, rw', q⟩⟩
  · obtain rfl : u = Value.ref d := rx
    obtain rfl : iv = Value.ref a := ry
    obtain ⟨xs, e, ks, _⟩ := n.ex
    exact ⟨(nest_of I2.hok e ks).2.2.typeIs, nest_get hu I2 n ka f fun w' s3 I3 rw' => ⟨_, H2, I3, rw', q⟩⟩
def IsKN (P : Program) (w : World) (H : Hp) (a : Addr) : Prop := (∃ kvs, H a = some (.dK kvs)) ∨ ∃ kvs, NestD P w H a kvs
def tSetKN (P : Program) (w : World) (td ty tx : TE) : TE := fun σ H Q => td σ H fun x H1 => ∃ a, x = .ref a ∧ IsKN P w H1 a ∧ ty σ H1 fun y H2 => tx σ H2 fun z H3 =>
  (∃ (kvs : List (L2.Key × V)) (k : L2.Key), H3 a = some (.dK kvs) ∧ y = kV k ∧ kvs.length < sizeLine ∧ (∀ v, valV kvs k = some v → Q v H3) ∧ (valV kvs k = none → Q z (upd H3 a (.dK (putK kvs k z))))) ∨
  ∃ (b : Addr) (kvs : List (PK × Int)) (p : PK) (n : Int), y = .ref b ∧ z = .int n ∧ NestD P w H3 a kvs ∧ KeyAt H3 b p ∧ kvs.length < sizeLine ∧ (∀ v, findK kvs p = some v → Q (.int v) H3) ∧
    (findK kvs p = none → ∀ xs', NestD P w (upd H3 a (NestO P w a xs')) a (kvs ++ [(p, n)]) → Q (.int n) (upd H3 a (NestO P w a xs')))
theorem pe_dsetKN {X : Cx} {o e f : Expr} {td ty tx : TE} {apos cpos : Pos} (hu : X.A.units + 10 < cLine) (ho : PE X o td) (he : PE X e ty) (hf : PE X f tx) (m : M2 X o "setdefault" apos e f cpos) : PE X (.Call (.Attribute o "setdefault" apos) [e, f] [] cpos) (tSetKN X.prog X.w td ty tx) := by
  refine ⟨fun pins s σ H Q I h => ?_⟩
  refine wpAny_Call_method m.base m.few m.line PySem.F.plainAttrs_dict PySem.F.slot_dict_setdefault PySem.F.type_dict_setdefault (thn (ho.run pins s σ H _ I h) fun u s1 ⟨x, H1, I1, rx, a, ex, d, q1⟩ => ?_)
  subst ex
  obtain rfl : u = Value.ref a := rx
  have both : s1.TypeIs (.ref a) "dict" ∧ ∀ b, Value.ref a = .ref b → ∃ ob, s1.heap.get? b = some ob ∧ ob.dict = none := by
    rcases d with ⟨kvs, e1⟩ | ⟨kvs, n⟩
    · obtain ⟨t1, t2, _⟩ := isD_at I1 (.inl ⟨kvs, .inl e1⟩)
      exact ⟨t1, t2⟩
    · obtain ⟨xs, e1, ks, _⟩ := n.ex
      obtain ⟨_, _, D⟩ := nest_of I1.hok e1 ks
      refine ⟨D.typeIs, fun b q => ?_⟩
      cases q
      obtain ⟨ob, _, _, k1, k2, _⟩ := D
      exact ⟨ob, k1, k2.2.1⟩
  refine ⟨both.1, both.2, ?_⟩
  rw [m.trees]
  refine Calls.callWith_builtin rfl (Calls.evalArgs_plain (Calls.spliced_cons (thn (he.run pins s1 σ H1 _ I1 q1) fun iv s2 ⟨y, H2, I2, ry, q2⟩ =>
    Calls.spliced_cons (thn (hf.run pins s2 σ H2 _ I2 q2) fun fv s3 ⟨z, H3, I3, rz, q3⟩ => Calls.spliced_nil ?_))))
  rcases q3 with ⟨kvs, k, ea, rfl, hl, q3, q4⟩ | ⟨b, kvs, p, n, rfl, rfl, nd, ka, hl, q3, q4⟩
  · exact d_setd I3 ea ry rz hl (fun v hv w' s4 I4 rw' => ⟨v, _, I4, rw', q3 v hv⟩) fun hn w' s4 I4 rw' => ⟨z, _, I4, rw', q4 hn⟩
  · obtain rfl : iv = Value.ref b := ry
    exact nest_set hu hl I3 nd ka rz (fun v hv w' s4 I4 rw' => ⟨_, _, I4, rw', q3 v hv⟩) fun hn xs' s4 n4 I4 => ⟨.int n, _, I4, rz, q4 hn xs' n4⟩
end Mz
namespace Mz
open PySem PySem.Spec PyProof.Rows L2
theorem hu10 {k : Nat} {A : Around} (r : Room k A) : A.units + 10 < cLine := by
  have := r.un
  omega
theorem walk_enumT {K : PySem.W.Frag} {a : Addr} {xs : List V} : Walk (IteT K a) xs.length (fun H => SqT K H a xs) (YPair (fun i => some (.int (i : Nat))) (fun i => xs[i]?)) :=
  ⟨fun i H hi q => ⟨xs, xs[i], q, List.getElem?_eq_getElem hi⟩, fun H q => ⟨xs, q, Nat.le_refl _⟩, fun i H v H' _ q ⟨T, x, h1, h2, h3, h4⟩ => ⟨T, .int (i : Nat), x, h1, h2, h3, rfl, h4 xs q⟩⟩
/-- the first place of each -/
def fi {α : Type} [DecidableEq α] (l : List α) (x : α) : Int := (l.findIdx fun y => decide (y = x) : Nat)
theorem fi_new {α : Type} [DecidableEq α] {l : List α} {i : Nat} {x : α} (h : l[i]? = some x) (n : x ∉ l.take i) : fi l x = i := by
  obtain ⟨lt, e⟩ := List.getElem?_eq_some_iff.mp h
  unfold fi
  have : l.findIdx (fun y => decide (y = x)) = i := by
    rw [List.findIdx_eq lt]
    refine ⟨decide_eq_true e, fun j hj => decide_eq_false fun z => n ?_⟩
    rw [← z]
    exact List.mem_take_iff_getElem.mpr ⟨j, by omega, rfl⟩
  rw [this]
theorem findK_snoc {kvs : List (PK × Int)} {p : PK} {z : Int} (n : findK kvs p = none) (q : PK) : findK (kvs ++ [(p, z)]) q = if q = p then some z else findK kvs q := by
  unfold findK at *
  rw [List.find?_append]
  by_cases c : q = p
  · subst c
    rw [Option.map_eq_none_iff] at n
    rw [n, if_pos rfl]
    simp
  · rw [if_neg c]
    have : List.find? (fun kv : PK × Int => decide (kv.1 = q)) [(p, z)] = none := by
      rw [List.find?_cons, decide_eq_false (show ¬ p = q from fun e => c e.symm)]
      rfl
    rw [this]
    simp
end Mz
namespace Mz
open PySem PySem.Spec PyProof.Rows L2
theorem pe_dgetKN2 {X : Cx} {P : Program} {w : World} {o i : Expr} {pos : Pos} {td ty : TE} (hP : X.prog = P) (hw : X.w = w) (hu : X.A.units + 10 < cLine) (ho : PE X o td) (hi : PE X i ty) (hs : NoSl i) : PE X (.Subscript o i pos) (tGetKN P w td ty) := by
  subst hP hw
  exact pe_dgetKN hu ho hi hs
end Mz
namespace Mz
open PySem PySem.Spec PyProof.Rows L2
def iLT (K : PySem.W.Frag) (tl : TE) : TI := fun σ H R => tl σ H fun x H1 => ∃ a, x = .ref a ∧ ((∃ xs, SqL K H1 a xs) ∧ R (Itl K a) H1 ∨ (∃ xs, SqT K H1 a xs) ∧ R (Itt K a) H1)
/-- a list or a tuple -/
theorem pi_lt {X : Cx} {tg l : Expr} {tl : TE} (hl : PE X l tl) : PI X tg l (iLT X.K tl) := by
  refine ⟨fun pins s σ H R I h => thn (hl.run pins s σ H _ I h) fun v s1 ⟨x, H1, I1, r1, a, ex, q⟩ => ?_⟩
  subst ex
  obtain rfl : v = Value.ref a := r1
  have below : ∀ b ∈ [s1.heap.objs.size], FpOk X pins H1 b := fun b hb => by
    rw [List.mem_singleton.mp hb]
    exact I1.fpOk (Nat.le_refl _) (I1.hok.fresh (Nat.le_refl _))
  rcases q with ⟨⟨xs, hq⟩, q⟩ | ⟨⟨xs, hq⟩, q⟩
  · obtain ⟨its, rv, p, _⟩ := I1.list hq
    exact wpAny_pyIter_list p.isList ⟨s1.heap.objs.size, [s1.heap.objs.size], _, _, H1, rfl, I1.kept (t' := s1.toks) (fun b o e => Heap.get?_push_of_some _ e), turn_list a _, ⟨_, Heap.get?_push_size _ rfl, rfl, rfl⟩, below, q⟩
  · obtain ⟨its, rv, p, _⟩ := I1.tuple hq
    have tp : s1.heap.IsTuple a its.toArray := p
    exact wpAny_pyIter_tuple tp ⟨s1.heap.objs.size, [s1.heap.objs.size], _, _, H1, rfl, I1.kept (t' := s1.toks) (fun b o e => Heap.get?_push_of_some _ e), turn_tuple a _, ⟨_, Heap.get?_push_size _ rfl, rfl, rfl⟩, below, q⟩
end Mz
namespace Mz
open PySem PySem.Spec PyProof.Rows L2
theorem seqT {K : PySem.W.Frag} {H H' : Hp} {a : Addr} {xs : List V} (s : Same H H') (h : SqT K H a xs) : SqT K H' a xs := by
  rcases h with (h | ⟨o, h⟩) | h
  · exact .inl (.inl (s _ _ h))
  · exact .inl (.inr ⟨o, s _ _ h⟩)
  · exact .inr h
end Mz
namespace DT
open PySem PySem.Spec PyProof.Rows L2
theorem pget2 {α β : Type} {F : α → β → Prop} : ∀ {l₁ : List α} {l₂ : List β} {j : Nat} {x : α}, Paired F l₁ l₂ → l₁[j]? = some x → ∃ y, l₂[j]? = some y ∧ F x y
  | _, _, 0, _, .cons h _, e => by
    cases e
    exact ⟨_, rfl, h⟩
  | _, _, j + 1, _, .cons _ t, e => pget2 (j := j) t e
  | _, _, 0, _, .nil, e => by cases e
  | _, _, j + 1, _, .nil, e => by cases e
end DT

set_option Elab.async false
set_option linter.all false
set_option maxRecDepth 100000
set_option maxHeartbeats 4000000
namespace K63
open PySem PySem.Spec PyProof.Rows L2 Mz
/-! ### a dict of lists -/
abbrev Fe := Int × Addr × List Int
abbrev kvsF (W : List Fe) : List (Key × V) := W.map fun x => ((.inl x.1 : Key), V.ref x.2.1)
structure DicL (H : Hp) (d : Addr) (W : List Fe) : Prop where
  top : H d = some (.dK (kvsF W))
  sub : ∀ x ∈ W, H x.2.1 = some (.lst (x.2.2.map V.int))
theorem DicL.same {H H' : Hp} {d : Addr} {W : List Fe} (h : DicL H d W) (s : Same H H') : DicL H' d W := ⟨s _ _ h.top, fun x hx => s _ _ (h.sub x hx)⟩
theorem DicL.ne {H : Hp} {d : Addr} {W : List Fe} (h : DicL H d W) {x : Fe} (hx : x ∈ W) : x.2.1 ≠ d := fun z => by
  have := h.sub x hx
  rw [z, h.top] at this
  cases this
def getF (W : List Fe) (k : Int) : Option Fe := W.find? fun x => decide (x.1 = k)
theorem getF_eq (k : Int) : ∀ W : List Fe, valV (kvsF W) (.inl k) = (getF W k).map fun x => V.ref x.2.1
  | [] => rfl
  | x :: W => by
    show valV (_ :: kvsF W) _ = _
    by_cases c : x.1 = k
    · rw [valV_pos (show ((.inl x.1 : Key)) = .inl k by rw [c])]
      unfold getF
      rw [List.find?_cons, decide_eq_true c]
      rfl
    · rw [valV_neg (fun z => c (Sum.inl.inj z)), getF_eq k W]
      unfold getF
      rw [List.find?_cons, decide_eq_false c]
theorem getF_some {W : List Fe} {b : Int} {x : Fe} (h : getF W b = some x) : x ∈ W ∧ x.1 = b := ⟨List.mem_of_find?_eq_some h, of_decide_eq_true (List.find?_some (p := fun x : Fe => decide (x.1 = b)) h)⟩
theorem getF_none {W : List Fe} {b : Int} (h : getF W b = none) : ∀ x ∈ W, x.1 ≠ b := fun x hx e => by
  have := List.find?_eq_none.1 h x hx
  exact this (decide_eq_true e)
abbrev keysF (W : List Fe) : List Int := W.map fun x => x.1
theorem getF_is {W : List Fe} {b : Int} : (getF W b).isSome = true ↔ b ∈ keysF W := by
  constructor
  · intro h
    cases e : getF W b with
    | none => rw [e] at h; cases h
    | some x =>
      obtain ⟨h1, h2⟩ := getF_some e
      exact List.mem_map.2 ⟨x, h1, h2⟩
  · intro h
    obtain ⟨x, hx, rfl⟩ := List.mem_map.1 h
    cases e : getF W x.1 with
    | none => exact absurd rfl (getF_none e x hx)
    | some y => rfl
theorem getF_uniq {W : List Fe} (nd : (keysF W).Nodup) {x : Fe} (hx : x ∈ W) : getF W x.1 = some x := by
  cases e : getF W x.1 with
  | none => exact absurd rfl (getF_none e x hx)
  | some y =>
    obtain ⟨h1, h2⟩ := getF_some e
    obtain ⟨i, hi⟩ := List.mem_iff_getElem?.1 hx
    obtain ⟨j, hj⟩ := List.mem_iff_getElem?.1 h1
    have e1 : (keysF W)[i]? = some x.1 := by rw [List.getElem?_map, hi]; rfl
    have e2 : (keysF W)[j]? = some x.1 := by rw [List.getElem?_map, hj]; exact congrArg some h2
    have ij := (List.getElem?_inj (List.getElem?_eq_some_iff.1 e1).1 nd).1 (e1.trans e2.symm)
    rw [ij, hj] at hi
    exact hi
def trOf (W : List Fe) (k : Int) : List Int := ((getF W k).map fun x => x.2.2).getD []
/-- the tree of a symbol over first trees, if it is due -/
def mkT (M : TM) (W : List Fe) (st : Int) (s : Nat) (ks : List Int) : Option (Int × List Int) :=
  if st ∈ ks ∧ M.to s ks ∉ keysF W then some (M.to s ks, (s : Int) :: ks.flatMap (trOf W)) else none
def overL (M : TM) (W : List Fe) (st : Int) (n : Nat) : List (Int × List Int) := (List.range n).flatMap fun (s : Nat) => (kidsL (M.rank (s : Int)).toNat (keysF W)).filterMap (mkT M W st s)
theorem placeN_plc (n : Int) : ∀ (ks : List Int) (p : Int), placeN n p ks = ks.foldl (fun at_ k => at_ * n + k) p
  | [], _ => rfl
  | k :: ks, p => placeN_plc n ks (p * n + k)
theorem kidsL_mem (ss : List Int) : ∀ r, ∀ x, x ∈ kidsL r ss ↔ x.length = r ∧ ∀ k ∈ x, k ∈ ss
  | 0, x => by
    show x ∈ [[]] ↔ _
    rw [List.mem_singleton]
    constructor
    · rintro rfl
      exact ⟨rfl, fun k hk => absurd hk (by simp)⟩
    · rintro ⟨h, _⟩
      exact List.length_eq_zero_iff.1 h
  | r + 1, x => by
    show x ∈ ((kidsL r ss).flatMap fun few => ss.map fun s => few ++ [s]) ↔ _
    constructor
    · intro h
      obtain ⟨few, hf, h⟩ := List.mem_flatMap.1 h
      obtain ⟨s, hs, rfl⟩ := List.mem_map.1 h
      obtain ⟨l, m⟩ := (kidsL_mem ss r few).1 hf
      refine ⟨by rw [List.length_append, l]; rfl, fun k hk => ?_⟩
      rcases List.mem_append.1 hk with z | z
      · exact m k z
      · rw [List.mem_singleton.1 z]
        exact hs
    · rintro ⟨l, m⟩
      have hne : x ≠ [] := fun z => by rw [z] at l; cases l
      refine List.mem_flatMap.2 ⟨x.dropLast, (kidsL_mem ss r _).2 ⟨by rw [List.length_dropLast, l]; rfl, fun k hk => m k ((List.dropLast_sublist x).subset hk)⟩, List.mem_map.2 ⟨x.getLast hne, m _ (List.getLast_mem hne), List.dropLast_concat_getLast hne⟩⟩
theorem over_len {M : TM} {W : List Fe} {st : Int} (hr : ∀ s : Nat, (M.rank s).toNat ≤ 2) (l : W.length ≤ 6) : ∀ n, (overL M W st n).length ≤ n * 36
  | 0 => Nat.zero_le _
  | n + 1 => by
    have ih := over_len (M := M) (st := st) hr l n
    unfold overL at ih ⊢
    rw [List.range_succ, List.flatMap_append, List.length_append, List.flatMap_singleton]
    have k := kidsL_len (keysF W) (by rw [List.length_map]; exact l) _ (hr n)
    have f := List.length_filterMap_le (mkT M W st n) (kidsL (M.rank n).toNat (keysF W))
    have p : 6 ^ (M.rank n).toNat ≤ 36 := Nat.pow_le_pow_right (by decide) (hr n)
    omega
/-- of the trees that were made -/
def GrA (H : Hp) (t : Addr) (g : Int × List Int) : Prop := ∃ u, H t = some (.tup [.int g.1, .ref u]) ∧ H u = some (.lst (g.2.map V.int)) ∧ g.2 ≠ []
theorem GrA.same {H H' : Hp} {t : Addr} {g : Int × List Int} (h : GrA H t g) (s : Same H H') : GrA H' t g := by
  obtain ⟨u, h1, h2, h3⟩ := h
  exact ⟨u, s _ _ h1, s _ _ h2, h3⟩
def spOver (K : PySem.W.Frag) : Sp := fun vs H Q _ => ∃ (m d : Addr) (M : TM) (W : List Fe) (st : Int), vs = [.ref m, .ref d, .int st] ∧ TMA H m M ∧ GoodT M ∧ DicL H d W ∧ W.length ≤ 6 ∧ (∀ x ∈ W, (0 ≤ x.1 ∧ x.1 < M.n) ∧ x.2.2.length ≤ 1000) ∧
  ∀ (H' : Hp) (q : Addr) (ts : List Addr), Same H H' → H q = none → H' q = some (.lst (ts.map V.ref)) → Rel GrA H' ts (overL M W st M.rs.length) → Q (.ref q) H'
end K63

set_option Elab.async false
set_option linter.all false
set_option maxRecDepth 100000
set_option maxHeartbeats 4000000
namespace K63
open PySem PySem.Spec PyProof.Rows L2 Mz
/-- all but q is kept -/
def Kq (q : Addr) (H H' : Hp) : Prop := ∀ b o, b ≠ q → H b = some o → H' b = some o
theorem Kq.refl {q : Addr} {H : Hp} : Kq q H H := fun _ _ _ h => h
theorem Kq.trans {q : Addr} {H H1 H2 : Hp} (a : Kq q H H1) (b : Kq q H1 H2) : Kq q H H2 := fun c o n h => b c o n (a c o n h)
theorem Kq.of {q : Addr} {H H' : Hp} (s : Same H H') : Kq q H H' := fun b o _ h => s b o h
theorem Kq.set {q : Addr} {H : Hp} {o : HO} : Kq q H (upd H q o) := fun b u n h => (upd_ne n).trans h
theorem trees_len {W : List Fe} (h : ∀ x ∈ W, x.2.2.length ≤ 1000) : ∀ ks : List Int, (ks.flatMap (trOf W)).length ≤ ks.length * 1000
  | [] => Nat.zero_le _
  | k :: ks => by
    have ih := trees_len h ks
    rw [List.flatMap_cons, List.length_append, List.length_cons]
    have : (trOf W k).length ≤ 1000 := by
      unfold trOf
      cases e : getF W k with
      | none => exact Nat.zero_le _
      | some x => exact h x (getF_some e).1
    omega
section
variable {P : Program} {w : World} {K : PySem.W.Frag} {mg : Str → Option Value} {base : Heap} {A : Ads} {c Pt : Addr}
theorem ok_over (T : Txt K mg A) : FnOk P w K mg base CX0 2 A.a_trees_over A.d_trees_over ["machine", "firsts", "state"] (spOver K) := by
  refine T.F_trees_over.ok sc_trees_over (fun vs H Q E h => ?_) (fun cdv Ar outer s H vs Q E hr h => ?_)
  · obtain ⟨_, _, _, _, _, rfl, _⟩ := h
    rfl
  · have G_kids_of := ok_kids (P := P) (w := w) (base := base) T
    have hr_kids_of : Room 1 (Ar.deeper (envOfC "_trees_over" (C8.fnScope s_trees_over) s.heap.objs.size A.a_trees_over cdv)) := hr
    have G_entry_of := ok_entry (P := P) (w := w) (base := base) T
    have hr_entry_of := hr_kids_of
    refine ⟨_, (pss_cons (ps_asg (pv 0) (pg_tup rfl (pgs_cons (pg_name (i := 3) sc_trees_over.nd rfl (Or.inl rfl)) (pgs_cons (pg_name (i := 4) sc_trees_over.nd rfl (Or.inl rfl)) (pgs_cons (pg_name (i := 5) sc_trees_over.nd rfl (Or.inl rfl)) (pgs_cons (pg_name (i := 6) sc_trees_over.nd rfl (Or.inl rfl)) pgs_nil))))))
      (pss_cons (ps_set (i := 7) sc_trees_over.nd rfl (Or.inl rfl) (pe_lst pa_nil))
      (pss_cons (ps_for PassesOwn.never rfl (pi_enumT (by rfl) T.n_enumerate (pa_cons (pv 3) pa_nil)) (pg_tup rfl (pgs_cons (pg_name (i := 8) sc_trees_over.nd rfl (Or.inl rfl)) (pgs_cons (pg_name (i := 9) sc_trees_over.nd rfl (Or.inl rfl)) pgs_nil)))
        (pss_one (ps_for PassesOwn.never rfl (pi_list (pe_call G_kids_of hr_kids_of (by rfl) T.g_kids_of T.F_kids_of.kp T.b_kids_of .nil pass0 (pa_cons (pv 9) (pa_cons (pe_callTy (T := "list") (call_listD rfl) (by rfl) T.n_list (by decide +kernel) (pa_cons (pv 1) pa_nil)) pa_nil)))) (pg_name (i := 10) sc_trees_over.nd rfl (Or.inl rfl))
            (pss_cons (ps_set (i := 11) sc_trees_over.nd rfl (Or.inl rfl) (pe_ix (r := rIx K) ix_seq (pe_ix (r := rIx K) ix_seq (pv 5) (pv 8) (fun _ _ => rfl)) (pe_call G_entry_of hr_entry_of (by rfl) T.g_entry_of T.F_entry_of.kp T.b_entry_of .nil pass0 (pa_cons (pv 10) (pa_cons (pe_callB call_len_seq (by rfl) T.n_len PySem.boot_len (pa_cons (pv 6) pa_nil)) pa_nil))) (fun _ _ => rfl)))
              (pss_one (ps_if (PW.pt (pw_and (pt_cmpR op_in_seq (pv 2) (pv 10) rfl) (pw_and1 (pt_cmp (pc_dnotin (hu_of hr) (pv 11) (pv 1)))))) (pss_cons (ps_set (i := 12) sc_trees_over.nd rfl (Or.inl rfl) (pe_lst (pa_cons (pv 8) pa_nil)))
                  (pss_cons (ps_for PassesOwn.never rfl (pi_tup (pv 10)) (pg_name (i := 13) sc_trees_over.nd rfl (Or.inl rfl))
                    (pss_one (ps_set (i := 12) sc_trees_over.nd rfl (Or.inl rfl) (pe_op op_cat (pv 12) (pe_dget (hu_of hr) (pv 1) (pv 13) (fun _ _ => rfl))))))
                  (pss_one (ps_expr (pe_bm PySem.F.plainAttrs_list PySem.F.slot_list_append PySem.F.type_list_append mt_append (pv 7) (pa_cons (pe_tup (pa_cons (pv 11) (pa_cons (pv 12) pa_nil))) pa_nil)))))) pss_nil))))))
      (pss_one (ps_ret (pv 7)))))), ?_⟩
    obtain ⟨m, d, M, W, st, rfl, hMA, g, hW, l6, hx, fin⟩ := h
    obtain ⟨r, ru, ou, qs, hM⟩ := id hMA
    obtain ⟨r1, r5, rb, _⟩ := ranks_iff.mp g.rk
    have n6 := g.n6
    have n1 := g.n1
    refine ⟨_, rfl, m, _, rfl, SqT.of hM.top, rfl, _, _, rfl, _, _, rfl, _, _, rfl, _, _, rfl, rfl, ?_⟩
    refine ⟨Nat.zero_le _, fun q hq => ?_⟩
    have s0 := same_upd (o := .lst []) (Same.refl H) hq
    have e0 : (upd H q (.lst [])) q = some (.lst []) := upd_same
    generalize upd H q (.lst []) = H0 at *
    have lR : (M.rs.map V.int).length = M.rs.length := List.length_map ..
    have rank2 : ∀ s : Nat, (M.rank s).toNat ≤ 2 := fun s => by
      have e : M.rank s = M.rs.getD s 0 := rfl
      rw [e, List.getD_eq_getElem?_getD]
      cases hs : M.rs[s]? with
      | none => exact Nat.zero_le _
      | some z =>
        have := (rb z (List.mem_of_getElem? hs)).2
        show z.toNat ≤ 2
        omega
    refine ⟨_, rfl, r, rfl, .inr ⟨⟨_, rd_t (rd_same s0 hM.rs)⟩, ?_⟩⟩
    refine for_it (walk_enumT (xs := M.rs.map V.int)) (fun i σ H' => ∃ (v4 v8 v9 v10 v11 v12 v13 : Option V) (ts : List Addr), σ = [some (.ref m), some (.ref d), some (.int st), some (.ref r), v4, some (.ref ru), some (.ref ou), some (.ref q), v8, v9, v10, v11, v12, v13] ∧ Same H H' ∧ H' q = some (.lst (ts.map V.ref)) ∧ Rel GrA H' ts (overL M W st i))
      ⟨_, none, none, none, none, none, none, [], rfl, s0, e0, Rel.nil⟩ (fun i σ H' _ ⟨_, _, _, _, _, _, _, _, _, s, _⟩ => rd_t (rd_same s hM.rs)) ?_ ?_
    · rintro i y σ H1 H1' hi ⟨v4, v8, v9, v10, v11, v12, v13, ts, rfl, s1, e1, r1⟩ ⟨T', x, z, rfl, hT, rfl, h1, h2⟩
      obtain ⟨rk, hn, rfl⟩ := ofV h2
      cases h1
      rw [lR] at hi
      have s2 := same_upd (o := .tup [.int (i : Int), .int rk]) (Same.refl H1) hT
      have eT : (upd H1 T' (.tup [.int (i : Int), .int rk])) T' = some (.tup [.int (i : Int), .int rk]) := upd_same
      have e2 := s2 _ _ e1
      have r2 : Rel GrA (upd H1 T' (.tup [.int (i : Int), .int rk])) ts (overL M W st i) := Rel.imp r1 fun t x h => h.same s2
      have s02 := s1.trans s2
      generalize upd H1 T' (.tup [.int (i : Int), .int rk]) = H2 at *
      have rkE : M.rank (i : Int) = rk := by
        show M.rs.getD (i : Int).toNat 0 = rk
        rw [Int.toNat_natCast, List.getD_eq_getElem?_getD, hn]
        rfl
      obtain ⟨rk0, rk3⟩ := rb _ (List.mem_of_getElem? hn)
      refine ⟨T', _, rfl, SqT.of eT, rfl, _, _, rfl, _, _, rfl, rfl, ?_⟩
      refine ⟨_, rfl, _, rfl, d, _, rfl, .inl (s02 _ _ hW.top), fun ka hka => ?_⟩
      have s3 := same_upd (o := .lst ((kvsF W).map fun kv => kV kv.1)) (Same.refl H2) hka
      have eka : (upd H2 ka (.lst ((kvsF W).map fun kv => kV kv.1))) ka = some (.lst ((keysF W).map V.int)) := by
        rw [upd_same, List.map_map, List.map_map]
        rfl
      have e3 := s3 _ _ e2
      have r3 : Rel GrA (upd H2 ka (.lst ((kvsF W).map fun kv => kV kv.1))) ts (overL M W st i) := Rel.imp r2 fun t x h => h.same s3
      have s03 := s02.trans s3
      generalize upd H2 ka (.lst ((kvsF W).map fun kv => kV kv.1)) = H3 at *
      refine ⟨ka, keysF W, rk.toNat, by rw [Int.toNat_of_nonneg rk0]; rfl, SqL.of eka, by rw [List.length_map]; exact l6, by omega, fun H4 ql tk s4 nq4 eql rk4 => ?_⟩
      have e4 := s4 _ _ e3
      have qlq : ql ≠ q := fun z => by
        rw [z, e3] at nq4
        cases nq4
      have s04 := s03.trans s4
      refine ⟨ql, rfl, ⟨_, SqL.of eql⟩, ?_⟩
      have kl := kidsL_len (keysF W) (by rw [List.length_map]; exact l6) rk.toNat (by omega : rk.toNat ≤ 2)
      have kp : 6 ^ rk.toNat ≤ 6 ^ 2 := Nat.pow_le_pow_right (by decide) (by omega)
      refine for_it (walk_list (xs := tk.map V.ref)) (fun j σ H' => ∃ (v10 v11 v12 v13 : Option V) (ts : List Addr), σ = [some (.ref m), some (.ref d), some (.int st), some (.ref r), v4, some (.ref ru), some (.ref ou), some (.ref q), some (.int (i : Int)), some (.int rk), v10, v11, v12, v13] ∧ Same H H' ∧ Kq q H4 H' ∧ H' q = some (.lst (ts.map V.ref)) ∧
          Rel GrA H' ts (overL M W st i ++ ((kidsL rk.toNat (keysF W)).take j).filterMap (mkT M W st i)))
        ⟨v10, v11, v12, v13, ts, rfl, s04, Kq.refl, e4, by rw [List.take_zero, List.filterMap_nil, List.append_nil]; exact Rel.imp r3 fun t x h => h.same s4⟩ (fun j σ H' _ ⟨_, _, _, _, _, _, _, k, _⟩ => SqL.of (k _ _ qlq eql)) ?_ ?_
      · rintro j y σ H5x H5 hj ⟨v10, v11, v12, v13, ts5, rfl, s5, k5, e5, r5⟩ ⟨rfl, hy⟩
        obtain ⟨tkj, htk, rfl⟩ := ofV hy
        obtain ⟨ks, eks, hks4⟩ := rk4.to htk
        have hks : H5 tkj = some (.tup (ks.map V.int)) := k5 _ _ (fun z => by
          have hks4 : H4 tkj = some (.tup (ks.map V.int)) := hks4
          rw [z, e4] at hks4
          cases hks4) hks4
        have mem := (kidsL_mem (keysF W) rk.toNat ks).1 (List.mem_of_getElem? eks)
        have kin : ∀ k ∈ ks, 0 ≤ k ∧ k < M.n := fun k hk => by
          obtain ⟨x, hx1, rfl⟩ := List.mem_map.1 (mem.2 k hk)
          exact (hx x hx1).1
        have hM5 := hM.same s5
        have hW5 := hW.same s5
        have iL : (i : Int) < (M.rs.length : Int) := by omega
        obtain ⟨er, p0, ep, t0, t1⟩ := entry_at g (s := (i : Int)) (by omega) iL (ks := ks) kin (by rw [rkE]; exact mem.1)
        have eqi : qs[i]? = some (qs.getD i 0) := by
          have : i < qs.length := by rw [hM.len, g.rl]; exact hi
          rw [List.getD_eq_getElem?_getD, List.getElem?_eq_getElem this]
          rfl
        have er' : M.rules[i]? = some (M.rule (i : Int)) := er
        have hrow := hM5.row i _ _ eqi er'
        have eqV : atI (qs.map V.ref) (i : Int) = some (V.ref (qs.getD i 0)) := atI_get? (by omega) (by rw [Int.toNat_natCast]; exact eqi)
        refine ⟨_, rfl, _, rfl, .inr (.inl ⟨ru, _, _, _, rfl, rfl, SqT.of hM5.ru, eqV, ?_⟩)⟩
        refine ⟨_, rfl, ⟨_, rfl, ou, _, rfl, .inr (SqT.of hM5.ou), ?_⟩⟩
        have plE : placeN ((M.outs.map V.int).length : Nat) 0 ks = plc M.n ks := by
          rw [placeN_plc, List.length_map]
          rfl
        refine ⟨tkj, ks, _, rfl, SqT.of hks, by rw [mem.1]; omega, by omega, by rw [List.length_map]; omega, fun k hk => ⟨(kin k hk).1, by have := (kin k hk).2; have e : M.n = (M.outs.length : Int) := rfl; omega⟩, ?_⟩
        rw [plE]
        refine .inr (.inl ⟨_, _, _, _, rfl, rfl, SqT.of hrow, atI_get? p0 ep, ?_⟩)
        have lG : ts5.length ≤ 300 := by
          rw [r5.1, List.length_append]
          have a1 := over_len (M := M) (W := W) (st := st) rank2 l6 i
          have a2 := List.length_filterMap_le (mkT M W st i) ((kidsL rk.toNat (keysF W)).take j)
          rw [List.length_take] at a2
          omega
        have more := take_more eks
        have skip : mkT M W st i ks = none → ∃ (v10 v11 v12 v13 : Option V) (ts : List Addr), _ = ([some (.ref m), some (.ref d), some (.int st), some (.ref r), v4, some (.ref ru), some (.ref ou), some (.ref q), some (.int (i : Int)), some (.int rk), v10, v11, v12, v13] : L2.St) ∧ Same H H5 ∧ Kq q H4 H5 ∧ H5 q = some (.lst (ts.map V.ref)) ∧ Rel GrA H5 ts (overL M W st i ++ ((kidsL rk.toNat (keysF W)).take (j + 1)).filterMap (mkT M W st i)) := fun hn =>
          ⟨some (.ref tkj), some (.int (M.to i ks)), v12, v13, ts5, rfl, s5, k5, e5, by
            rw [more, List.filterMap_append, List.filterMap_cons, hn, List.filterMap_nil, List.append_nil]
            exact r5⟩
        refine ⟨_, rfl, _, rfl, ⟨tkj, ks.map V.int, rfl, .inr (SqT.of hks), rfl, flatI ks, ?_⟩⟩
        refine ⟨_, rfl, ?_⟩
        by_cases c1 : st ∈ ks
        rotate_left
        · refine ifDF ?_ (ifDF rfl (skip (if_neg fun z => c1 z.1)))
          show (if false = true then !inV (V.int st) (ks.map V.int) else inV (V.int st) (ks.map V.int)) = false
          rw [if_neg (by decide), inVI]
          exact decide_eq_false c1
        refine ifDT ?_ ?_
        · show (if false = true then !inV (V.int st) (ks.map V.int) else inV (V.int st) (ks.map V.int)) = true
          rw [if_neg (by decide), inVI]
          exact decide_eq_true c1
        have dg := DGet.k (k := .inl (M.to i ks)) hW5.top
        rw [getF_eq] at dg
        refine ⟨_, rfl, _, rfl, d, _, rfl, dg, ?_⟩
        refine ⟨_, rfl, ?_⟩
        by_cases c2 : M.to i ks ∈ keysF W
        · refine ifDF ?_ (skip (if_neg fun z => z.2 c2))
          rw [Option.isSome_map, getF_is.2 c2]
          rfl
        refine ifDT ?_ ?_
        · rw [Option.isSome_map]
          cases e : (getF W (M.to i ks)).isSome with
          | true => exact absurd (getF_is.1 e) c2
          | false => rfl
        have mk : mkT M W st i ks = some (M.to i ks, (i : Int) :: ks.flatMap (trOf W)) := if_pos ⟨c1, c2⟩
        refine ⟨_, rfl, (by show 1 ≤ sizeLine; decide), fun t1 ht1 => ?_⟩
        have s6 := same_upd (o := .lst [.int (i : Int)]) (Same.refl H5) ht1
        have et1 : (upd H5 t1 (.lst [.int (i : Int)])) t1 = some (.lst (([(i : Int)] : List Int).map V.int)) := upd_same
        generalize upd H5 t1 (.lst [.int (i : Int)]) = H6 at *
        refine ⟨_, rfl, tkj, rfl, ⟨_, SqT.of (s6 _ _ hks)⟩, ?_⟩
        refine for_it (walk_tup (xs := ks.map V.int)) (fun a σ H' => ∃ (v13 : Option V) (t : Addr), σ = [some (.ref m), some (.ref d), some (.int st), some (.ref r), v4, some (.ref ru), some (.ref ou), some (.ref q), some (.int (i : Int)), some (.int rk), some (.ref tkj), some (.int (M.to i ks)), some (.ref t), v13] ∧ Same H6 H' ∧ H' t = some (.lst (((i : Int) :: (ks.take a).flatMap (trOf W)).map V.int)))
          ⟨v13, t1, rfl, Same.refl H6, et1⟩ (fun a σ H' _ ⟨_, _, _, s, _⟩ => SqT.of (s _ _ (s6 _ _ hks))) ?_ ?_
        · rintro a y σ H7x H7 ha ⟨v13, t, rfl, s7, et⟩ ⟨rfl, hy⟩
          obtain ⟨k, hk, rfl⟩ := ofV hy
          have kk := mem.2 k (List.mem_of_getElem? hk)
          obtain ⟨x, ex⟩ := Option.isSome_iff_exists.1 (getF_is.2 kk)
          obtain ⟨xm, xk⟩ := getF_some ex
          have eT : trOf W k = x.2.2 := by
            unfold trOf
            rw [ex]
            rfl
          have hx7 := (s6.trans s7) _ _ (hW5.sub x xm)
          have dg := DGet.k (k := .inl k) ((s6.trans s7) _ _ hW5.top)
          rw [getF_eq, ex] at dg
          refine ⟨_, rfl, _, rfl, _, rfl, d, _, rfl, dg, ?_⟩
          have lt : (((i : Int) :: (ks.take a).flatMap (trOf W)).map V.int).length ≤ 3001 := by
            rw [List.length_map, List.length_cons]
            have := trees_len (W := W) (fun x hx' => (hx x hx').2) (ks.take a)
            have h2 := List.length_take_le a ks
            have h3 : (ks.take a).length * 1000 ≤ 3 * 1000 := Nat.mul_le_mul_right _ (by have h5 := mem.1; have h6 : (ks.take a).length ≤ ks.length := (List.take_sublist a ks).length_le; omega)
            omega
          have lx := (hx x xm).2
          refine ⟨t, x.2.1, _, _, rfl, rfl, et, hx7, ?_, fun p hp => ?_⟩
          · rw [List.length_map (as := x.2.2)]
            exact Nat.le_trans (by omega : _ ≤ 4001) (by decide)
          refine ⟨some (.int k), p, rfl, s7.trans (same_upd (Same.refl H7) hp), ?_⟩
          rw [upd_same, take_more hk, List.flatMap_append, List.flatMap_singleton, eT, ← List.map_append, List.cons_append]
        · rintro σ H7 ⟨v13, t, rfl, s7, et⟩
          rw [List.length_map, List.take_length] at et
          have e7 := (s6.trans s7) _ _ e5
          have s57 := s6.trans s7
          refine ⟨_, rfl, .inl ⟨rfl, _, SqL.of e7⟩, ?_⟩
          refine ⟨_, rfl, _, rfl, (by show 2 ≤ sizeLine; decide), fun pt hpt => ?_⟩
          have s8 := same_upd (o := .tup [.int (M.to i ks), .ref t]) (Same.refl H7) hpt
          have ept : (upd H7 pt (.tup [.int (M.to i ks), .ref t])) pt = some (.tup [.int (M.to i ks), .ref t]) := upd_same
          generalize upd H7 pt (.tup [.int (M.to i ks), .ref t]) = H8 at *
          have e8 := s8 _ _ e7
          refine ⟨q, _, _, rfl, rfl, e8, Nat.lt_of_le_of_lt (by rw [List.length_map]; exact lG) (by decide), ?_⟩
          have et8 := s8 _ _ et
          have s58 := s57.trans s8
          have gq : ∀ {x : Addr} {g : Int × List Int}, GrA H8 x g → GrA (upd H8 q (.lst (ts5.map V.ref ++ [.ref pt]))) x g := fun {x g} ⟨u, h1, h2, h3⟩ => ⟨u, (upd_ne fun z => by rw [z, e8] at h1; cases h1).trans h1, (upd_ne fun z => by
            rw [z, e8] at h2
            have h2 : ts5.map V.ref = g.2.map V.int := by injection h2 with h2; injection h2
            cases h4 : g.2 with
            | nil => exact h3 h4
            | cons a b =>
              rw [h4] at h2
              cases ts5 with
              | nil => cases h2
              | cons c d => cases h2).trans h2, h3⟩
          refine ⟨_, _, _, _, ts5 ++ [pt], rfl, same_set (s5.trans s58) hq, (k5.trans (Kq.of s58)).trans Kq.set, by rw [upd_same, List.map_append]; rfl, ?_⟩
          rw [more, List.filterMap_append, List.filterMap_cons, mk, List.filterMap_nil, ← List.append_assoc]
          exact Rel.push (Rel.imp r5 fun t x h => gq (h.same s58)) (gq ⟨t, ept, et8, by simp⟩)
      · rintro σ H5 ⟨v10, v11, v12, v13, ts5, rfl, s5, k5, e5, r5⟩
        rw [List.length_map, rk4.1, List.take_length] at r5
        refine ⟨_, _, _, _, _, _, _, ts5, rfl, s5, e5, ?_⟩
        unfold overL at r5 ⊢
        rw [List.range_succ, List.flatMap_append, List.flatMap_singleton, rkE]
        exact r5
    · rintro σ H1 ⟨v4, v8, v9, v10, v11, v12, v13, ts, rfl, s1, e1, r1⟩
      rw [lR] at r1
      exact ⟨_, rfl, fin H1 q ts s1 hq e1 r1⟩
end
end K63

set_option Elab.async false
set_option linter.all false
set_option maxRecDepth 100000
set_option maxHeartbeats 4000000
namespace K63
open PySem PySem.Spec PyProof.Rows L2 Mz
/-! ### trees of states -/
theorem lex_tr : ∀ {u v w : List Int}, HT.lexLt u v = true → HT.lexLt v w = true → HT.lexLt u w = true
  | [], _, [], h, g => by
    cases ‹List Int› with
    | nil => exact h
    | cons _ _ => cases g
  | [], _, _ :: _, _, _ => rfl
  | _ :: _, [], _, h, _ => by cases h
  | _ :: _, _ :: _, [], _, g => by cases g
  | x :: u, y :: v, z :: w, h, g => by
    rw [HT.lexLt_cons] at h g ⊢
    by_cases e1 : x = y
    · by_cases e2 : y = z
      · rw [if_pos e1] at h
        rw [if_pos e2] at g
        rw [if_pos (e1.trans e2)]
        exact lex_tr h g
      · rw [if_neg e2] at g
        rw [if_neg (fun z' => e2 (e1.symm.trans z')), e1]
        exact g
    · rw [if_neg e1] at h
      have h := of_decide_eq_true h
      by_cases e2 : y = z
      · rw [if_neg (fun z' => e1 (z'.trans e2.symm)), ← e2]
        exact decide_eq_true h
      · rw [if_neg e2] at g
        have g := of_decide_eq_true g
        rw [if_neg (by omega)]
        exact decide_eq_true (by omega)
theorem wl_tr {u v w : List Int} (h : wordLt u v = true) (g : wordLt v w = true) : wordLt u w = true := by
  unfold wordLt at *
  by_cases e1 : u.length = v.length
  · by_cases e2 : v.length = w.length
    · rw [if_pos e1] at h
      rw [if_pos e2] at g
      rw [if_pos (e1.trans e2)]
      exact lex_tr h g
    · rw [if_neg e2] at g
      rw [if_neg (by omega), e1]
      exact g
  · rw [if_neg e1] at h
    have h := of_decide_eq_true h
    by_cases e2 : v.length = w.length
    · rw [if_neg (by omega)]
      exact decide_eq_true (by omega)
    · rw [if_neg e2] at g
      have g := of_decide_eq_true g
      rw [if_neg (by omega)]
      exact decide_eq_true (by omega)
theorem lex_irr : ∀ u : List Int, HT.lexLt u u = false
  | [] => rfl
  | x :: u => by rw [HT.lexLt_cons, if_pos rfl]; exact lex_irr u
theorem wl_irr (u : List Int) : wordLt u u = false := by
  unfold wordLt
  rw [if_pos rfl]
  exact lex_irr u
theorem wl_long {u v : List Int} (h : v.length < u.length) : wordLt u v = false := by
  unfold wordLt
  rw [if_neg (by omega)]
  exact decide_eq_false (by omega)
theorem wl_len {u v : List Int} (h : wordLt u v = false) : v.length ≤ u.length := by
  unfold wordLt at h
  by_cases e : u.length = v.length
  · omega
  · rw [if_neg e] at h
    have := of_decide_eq_false h
    omega
/-- a tree of the state, built of trees -/
inductive TT (M : TM) : List Int → Int → Prop where
  | mk (s : Nat) (ks : List Int) (us : List (List Int)) (hs : s < M.rs.length) (hl : ks.length = (M.rank (s : Int)).toNat) (hu : us.length = ks.length) (h : ∀ (i : Nat) (u : List Int) (k : Int), us[i]? = some u → ks[i]? = some k → TT M u k) : TT M ((s : Int) :: us.flatten) (M.to s ks)
structure Tr (M : TM) (t : List Int) (s : Int) : Prop where
  ne : t ≠ []
  bl : ∀ z ∈ t, 0 ≤ z ∧ z < (M.rs.length : Int)
  st : ∀ v, t.foldr (fun s st => stepS M st s) v = s :: v
  lk : ∀ (n : Int) (rest : List Int), 1 ≤ n → lackG M.rs (t ++ rest) n = lackG M.rs rest (n - 1)
  tt : TT M t s
theorem trs_st {M : TM} {f : Int → List Int} : ∀ {ks : List Int}, (∀ k ∈ ks, Tr M (f k) k) → ∀ v, (ks.flatMap f).foldr (fun s st => stepS M st s) v = ks ++ v
  | [], _, _ => rfl
  | k :: ks, h, v => by
    rw [List.flatMap_cons, List.foldr_append, trs_st (fun z hz => h z (List.mem_cons_of_mem _ hz)), (h k List.mem_cons_self).st]
    rfl
theorem trs_lk {M : TM} {f : Int → List Int} : ∀ {ks : List Int}, (∀ k ∈ ks, Tr M (f k) k) → ∀ (n : Int) (rest : List Int), (ks.length : Int) ≤ n → lackG M.rs (ks.flatMap f ++ rest) n = lackG M.rs rest (n - ks.length)
  | [], _, n, rest, _ => by
    show lackG M.rs rest n = lackG M.rs rest (n - ((0 : Nat) : Int))
    rw [show n - ((0 : Nat) : Int) = n by omega]
  | k :: ks, h, n, rest, hn => by
    rw [List.length_cons] at hn
    rw [List.flatMap_cons, List.append_assoc, (h k List.mem_cons_self).lk n _ (by omega), trs_lk (fun z hz => h z (List.mem_cons_of_mem _ hz)) (n - 1) rest (by omega), List.length_cons]
    congr 1
    omega
theorem Tr.make {M : TM} {f : Int → List Int} {s : Nat} {ks : List Int} (hs : s < M.rs.length) (r0 : 0 ≤ M.rank (s : Int)) (hl : ks.length = (M.rank (s : Int)).toNat) (h : ∀ k ∈ ks, Tr M (f k) k) : Tr M ((s : Int) :: ks.flatMap f) (M.to s ks) := by
  refine ⟨by simp, fun z hz => ?_, fun v => ?_, fun n rest hn => ?_, ?_⟩
  rotate_right
  · rw [List.flatMap_def]
    refine .mk s ks (ks.map f) hs hl (List.length_map ..) fun i u k h1 h2 => ?_
    rw [List.getElem?_map, h2] at h1
    rw [← Option.some.inj h1]
    exact (h k (List.mem_of_getElem? h2)).tt
  · rcases List.mem_cons.1 hz with e | e
    · rw [e]
      omega
    · obtain ⟨k, hk, e⟩ := List.mem_flatMap.1 e
      exact (h k hk).bl z e
  · rw [List.foldr_cons, trs_st h]
    unfold stepS
    rw [← hl, List.take_left, List.drop_left]
  · rw [List.cons_append, lackG, if_neg (by omega)]
    have e : M.rs.getD (s : Int).toNat 0 = M.rank (s : Int) := rfl
    rw [e, trs_lk h _ rest (by omega)]
    congr 1
    omega
theorem Tr.state {M : TM} {t : List Int} {s : Int} (h : Tr M t s) : M.stateT t = s := by
  unfold TM.stateT stackS
  rw [h.st]
  rfl
theorem Tr.tree {M : TM} {t : List Int} {s : Int} (h : Tr M t s) (l : t.length ≤ 400) : treeB M.rs t = true := by
  unfold treeB
  have := h.lk 1 [] (by decide)
  rw [List.append_nil] at this
  rw [Bool.and_eq_true, Bool.and_eq_true]
  refine ⟨⟨decide_eq_true l, below_iff.mpr h.bl⟩, ?_⟩
  rw [this]
  rfl
/-! ### first trees and offers -/
structure FO (M : TM) (F O : List Fe) : Prop where
  nd : (keysF F ++ keysF O).Nodup
  rg : ∀ x ∈ F ++ O, 0 ≤ x.1 ∧ x.1 < M.n
  tr : ∀ x ∈ F ++ O, Tr M x.2.2 x.1
  lf : ∀ x ∈ F, x.2.2.length < 2 ^ F.length
  lo : ∀ x ∈ O, x.2.2.length < 2 ^ (F.length + 1)
  or : ∀ x ∈ F, ∀ y ∈ O, x.2.2.length ≤ y.2.2.length
def KidsOf (M : TM) (F : List Fe) (s : Nat) (ks : List Int) : Prop := s < M.rs.length ∧ ks.length = (M.rank (s : Int)).toNat ∧ ∀ k ∈ ks, k ∈ keysF F
def Due (M : TM) (F O : List Fe) (s : Nat) (ks : List Int) : Prop := ∃ x ∈ F ++ O, x.1 = M.to s ks ∧ wordLt ((s : Int) :: ks.flatMap (trOf F)) x.2.2 = false
def Full (M : TM) (F O : List Fe) : Prop := FO M F O ∧ ∀ s ks, KidsOf M F s ks → Due M F O s ks
theorem nodup_len {α : Type} [DecidableEq α] : ∀ {xs ys : List α}, xs.Nodup → (∀ x ∈ xs, x ∈ ys) → xs.length ≤ ys.length
  | [], _, _, _ => Nat.zero_le _
  | x :: xs, ys, nd, h => by
    have hx := h x List.mem_cons_self
    have nd := List.nodup_cons.1 nd
    have := nodup_len (ys := ys.erase x) nd.2 fun y hy => (List.mem_erase_of_ne (fun z : y = x => nd.1 (by rw [← z]; exact hy))).2 (h y (List.mem_cons_of_mem _ hy))
    rw [List.length_erase_of_mem hx] at this
    have := List.length_pos_of_mem hx
    rw [List.length_cons]
    omega
theorem in_range_len {ks : List Int} {n : Nat} (nd : ks.Nodup) (h : ∀ k ∈ ks, 0 ≤ k ∧ k < (n : Int)) : ks.length ≤ n := by
  have := nodup_len (ys := (List.range n).map fun (i : Nat) => (i : Int)) nd fun k hk => by
    have := h k hk
    exact List.mem_map.2 ⟨k.toNat, List.mem_range.2 (by omega), by omega⟩
  rwa [List.length_map, List.length_range] at this
theorem FO.len {M : TM} {F O : List Fe} (h : FO M F O) : F.length + O.length ≤ M.outs.length := by
  have := in_range_len (n := M.outs.length) h.nd fun k hk => by
    rcases List.mem_append.1 hk with z | z
    · obtain ⟨x, hx, rfl⟩ := List.mem_map.1 z
      exact h.rg x (List.mem_append_left _ hx)
    · obtain ⟨x, hx, rfl⟩ := List.mem_map.1 z
      exact h.rg x (List.mem_append_right _ hx)
  rwa [List.length_append, List.length_map, List.length_map] at this
theorem FO.trf {M : TM} {F O : List Fe} (h : FO M F O) {k : Int} (hk : k ∈ keysF F) : ∃ x ∈ F, x.1 = k ∧ trOf F k = x.2.2 := by
  obtain ⟨x, ex⟩ := Option.isSome_iff_exists.1 (getF_is.2 hk)
  obtain ⟨xm, xk⟩ := getF_some ex
  exact ⟨x, xm, xk, by unfold trOf; rw [ex]; rfl⟩
/-- a tree made over first trees -/
theorem FO.made {M : TM} {F O : List Fe} (h : FO M F O) (g : GoodT M) {s : Nat} {ks : List Int} (hk : KidsOf M F s ks) :
    Tr M ((s : Int) :: ks.flatMap (trOf F)) (M.to s ks) ∧ ((s : Int) :: ks.flatMap (trOf F)).length < 2 ^ (F.length + 1) ∧ (0 ≤ M.to s ks ∧ M.to s ks < M.n) ∧ ∀ k ∈ ks, (trOf F k).length < ((s : Int) :: ks.flatMap (trOf F)).length := by
  obtain ⟨hs, hl, hk⟩ := hk
  obtain ⟨r1, r5, rb, _⟩ := ranks_iff.mp g.rk
  have rs : M.rs[s]? = some (M.rank (s : Int)) := by
    show _ = some (M.rs.getD (s : Int).toNat 0)
    rw [Int.toNat_natCast, List.getD_eq_getElem?_getD, List.getElem?_eq_getElem hs]
    rfl
  obtain ⟨r0, r3⟩ := rb _ (List.mem_of_getElem? rs)
  have tr : ∀ k ∈ ks, Tr M (trOf F k) k := fun k hk' => by
    obtain ⟨x, hx, e, t⟩ := h.trf (hk k hk')
    rw [t, ← e]
    exact h.tr x (List.mem_append_left _ hx)
  have kr : ∀ k ∈ ks, 0 ≤ k ∧ k < M.n := fun k hk' => by
    obtain ⟨x, hx, e, t⟩ := h.trf (hk k hk')
    rw [← e]
    exact h.rg x (List.mem_append_left _ hx)
  have ln : ∀ k ∈ ks, (trOf F k).length < 2 ^ F.length := fun k hk' => by
    obtain ⟨x, hx, e, t⟩ := h.trf (hk k hk')
    rw [t]
    exact h.lf x hx
  obtain ⟨_, _, _, t0, t1⟩ := entry_at g (s := (s : Int)) (by omega) (by omega) kr hl
  refine ⟨Tr.make hs r0 hl tr, ?_, ⟨t0, t1⟩, fun k hk' => ?_⟩
  · rw [List.length_cons, Nat.pow_succ]
    have p1 : 1 ≤ 2 ^ F.length := Nat.one_le_two_pow
    have l2 : ks.length ≤ 2 := by omega
    match ks, ln, l2 with
    | [], _, _ => show 0 + 1 < _; omega
    | [a], ln, _ =>
      have := ln a (by simp)
      simp only [List.flatMap_cons, List.flatMap_nil, List.append_nil]
      omega
    | [a, b], ln, _ =>
      have := ln a (by simp)
      have := ln b (by simp)
      simp only [List.flatMap_cons, List.flatMap_nil, List.append_nil, List.length_append]
      omega
    | _ :: _ :: _ :: _, _, l => simp at l
  · rw [List.length_cons]
    have : (trOf F k).length ≤ (ks.flatMap (trOf F)).length := by
      obtain ⟨a, b, e⟩ := List.append_of_mem hk'
      rw [e, List.flatMap_append, List.flatMap_cons, List.length_append, List.length_append]
      omega
    omega
end K63

set_option Elab.async false
set_option linter.all false
set_option maxRecDepth 100000
set_option maxHeartbeats 4000000
namespace K63
open PySem PySem.Spec PyProof.Rows L2 Mz
theorem anyF (O : List Fe) (k : Int) : ((kvsF O).any fun kv => decide (kv.1 = (.inl k : Key))) = decide (k ∈ keysF O) := by
  rw [valV_any, getF_eq, Option.isSome_map]
  cases e : (getF O k).isSome with
  | true => exact (decide_eq_true (getF_is.1 e)).symm
  | false => exact (decide_eq_false fun z => by rw [getF_is.2 z] at e; cases e).symm
def repO (O : List Fe) (k : Int) (a : Addr) (t : List Int) : List Fe := O.map fun x => if x.1 = k then (k, a, t) else x
theorem put_new {O : List Fe} {k : Int} (h : k ∉ keysF O) (a : Addr) (t : List Int) : putK (kvsF O) (.inl k) (.ref a) = kvsF (O ++ [(k, a, t)]) := by
  unfold putK
  rw [anyF, decide_eq_false h, if_neg (by decide)]
  show _ = List.map _ _
  rw [List.map_append]
  rfl
theorem put_old {O : List Fe} {k : Int} (h : k ∈ keysF O) (a : Addr) (t : List Int) : putK (kvsF O) (.inl k) (.ref a) = kvsF (repO O k a t) := by
  unfold putK
  rw [anyF, decide_eq_true h, if_pos rfl]
  unfold repO
  show List.map _ (List.map _ O) = List.map _ (List.map _ O)
  rw [List.map_map, List.map_map]
  refine List.map_congr_left fun x _ => ?_
  show (if (.inl x.1 : Key) = .inl k then ((.inl x.1 : Key), V.ref a) else ((.inl x.1 : Key), V.ref x.2.1)) = ((.inl (if x.1 = k then (k, a, t) else x).1 : Key), V.ref (if x.1 = k then (k, a, t) else x).2.1)
  by_cases c : x.1 = k
  · rw [if_pos (by rw [c]), if_pos c, c]
  · rw [if_neg (fun z => c (Sum.inl.inj z)), if_neg c]
def offO (O : List Fe) (k : Int) : List Fe := O.filter fun x => decide (x.1 ≠ k)
theorem drop_is (O : List Fe) (k : Int) : dropK (kvsF O) (.inl k) = kvsF (offO O k) := by
  unfold dropK offO
  show List.filter _ (List.map _ O) = List.map _ (List.filter _ O)
  rw [List.filter_map]
  congr 1
  refine List.filter_congr fun x _ => ?_
  show decide ((.inl x.1 : Key) ≠ .inl k) = decide (x.1 ≠ k)
  rw [decide_eq_decide]
  exact ⟨fun h z => h (by rw [z]), fun h z => h (Sum.inl.inj z)⟩
theorem repO_keys (O : List Fe) (k : Int) (a : Addr) (t : List Int) : keysF (repO O k a t) = keysF O := by
  unfold repO
  show List.map _ (List.map _ O) = List.map _ O
  rw [List.map_map]
  refine List.map_congr_left fun x _ => ?_
  show (if x.1 = k then (k, a, t) else x).1 = x.1
  by_cases c : x.1 = k
  · rw [if_pos c, c]
  · rw [if_neg c]
theorem offO_keys {O : List Fe} {k z : Int} (h : z ∈ keysF (offO O k)) : z ∈ keysF O ∧ z ≠ k := by
  obtain ⟨x, hx, rfl⟩ := List.mem_map.1 h
  obtain ⟨h1, h2⟩ := List.mem_filter.1 hx
  exact ⟨List.mem_map.2 ⟨x, h1, rfl⟩, of_decide_eq_true h2⟩
theorem trOf_old {F : List Fe} {x : Fe} {k : Int} (h : k ∈ keysF F) : trOf (F ++ [x]) k = trOf F k := by
  unfold trOf getF
  rw [List.find?_append]
  obtain ⟨y, e⟩ := Option.isSome_iff_exists.1 (getF_is.2 h)
  have e : F.find? (fun x => decide (x.1 = k)) = some y := e
  rw [e]
  rfl
theorem trOf_new {F : List Fe} {x : Fe} (h : x.1 ∉ keysF F) : trOf (F ++ [x]) x.1 = x.2.2 := by
  unfold trOf getF
  rw [List.find?_append]
  cases e : F.find? (fun y => decide (y.1 = x.1)) with
  | some y => exact absurd (getF_is.1 (show (getF F x.1).isSome = true by show (F.find? (fun y => decide (y.1 = x.1))).isSome = true; rw [e]; rfl)) h
  | none =>
    rw [Option.none_or, List.find?_cons, decide_eq_true rfl]
    rfl
theorem keys_app (F : List Fe) (x : Fe) : keysF (F ++ [x]) = keysF F ++ [x.1] := by
  show List.map _ _ = _
  rw [List.map_append]
  rfl
theorem FO.off {M : TM} {F O : List Fe} (h : FO M F O) {x : Fe} (hx : x ∈ O) : x.1 ∉ keysF F := fun z => (List.nodup_append.1 h.nd).2.2 _ z _ (List.mem_map.2 ⟨x, hx, rfl⟩) rfl
theorem FO.pop {M : TM} {F O : List Fe} (h : FO M F O) {x : Fe} (hx : x ∈ O) (mn : ∀ y ∈ O, x.2.2.length ≤ y.2.2.length) : FO M (F ++ [x]) (offO O x.1) := by
  have sub : ∀ y ∈ offO O x.1, y ∈ O := fun y hy => (List.mem_filter.1 hy).1
  obtain ⟨n1, n2, n3⟩ := List.nodup_append.1 h.nd
  have all : ∀ y, y ∈ (F ++ [x]) ++ offO O x.1 → y ∈ F ++ O := fun y hy => by
    rcases List.mem_append.1 hy with z | z
    · rcases List.mem_append.1 z with z | z
      · exact List.mem_append_left _ z
      · rw [List.mem_singleton.1 z]
        exact List.mem_append_right _ hx
    · exact List.mem_append_right _ (sub y z)
  have lF : (F ++ [x]).length = F.length + 1 := by rw [List.length_append]; rfl
  refine ⟨?_, fun y hy => h.rg y (all y hy), fun y hy => h.tr y (all y hy), fun y hy => ?_, fun y hy => ?_, fun y hy z hz => ?_⟩
  · rw [keys_app]
    refine List.nodup_append.2 ⟨List.nodup_append.2 ⟨n1, List.nodup_cons.2 ⟨by simp, List.nodup_nil⟩, fun a ha b hb e => ?_⟩, ?_, fun a ha b hb e => ?_⟩
    · rw [List.mem_singleton.1 hb] at e
      rw [e] at ha
      exact h.off hx ha
    · exact (List.Sublist.map _ List.filter_sublist).nodup n2
    · obtain ⟨b1, b2⟩ := offO_keys hb
      rcases List.mem_append.1 ha with z | z
      · exact n3 _ z _ b1 e
      · rw [List.mem_singleton.1 z] at e
        exact b2 e.symm
  · rw [lF]
    rcases List.mem_append.1 hy with z | z
    · have := h.lf y z
      rw [Nat.pow_succ]
      omega
    · rw [List.mem_singleton.1 z]
      exact h.lo x hx
  · rw [lF]
    have := h.lo y (sub y hy)
    rw [Nat.pow_succ]
    omega
  · rcases List.mem_append.1 hy with w | w
    · exact h.or y w z (sub z hz)
    · rw [List.mem_singleton.1 w]
      exact mn z (sub z hz)
/-- half way: the trees so far are heeded -/
structure Mid (M : TM) (F O : List Fe) (st : Int) (don : List (Int × List Int)) : Prop where
  fo : FO M F O
  top : ∀ y ∈ F, y.2.2.length ≤ (trOf F st).length
  due : ∀ s ks, KidsOf M F s ks → (st ∉ ks ∨ M.to s ks ∈ keysF F ∨ (M.to s ks, (s : Int) :: ks.flatMap (trOf F)) ∈ don) → Due M F O s ks
theorem mid0 {M : TM} {F O : List Fe} (g : GoodT M) (h : Full M F O) {x : Fe} (hx : x ∈ O) (mn : ∀ y ∈ O, x.2.2.length ≤ y.2.2.length) : Mid M (F ++ [x]) (offO O x.1) x.1 [] := by
  obtain ⟨fo, due⟩ := h
  have fo2 := fo.pop hx mn
  have xn := fo.off hx
  have tx := trOf_new (F := F) (x := x) xn
  have top : ∀ y ∈ F ++ [x], y.2.2.length ≤ x.2.2.length := fun y hy => by
    rcases List.mem_append.1 hy with z | z
    · exact fo.or y z x hx
    · rw [List.mem_singleton.1 z]
      exact Nat.le_refl _
  refine ⟨fo2, by rw [tx]; exact top, fun s ks hk hc => ?_⟩
  by_cases cs : x.1 ∈ ks
  · have ct : M.to s ks ∈ keysF (F ++ [x]) := by
      rcases hc with z | z | z
      · exact absurd cs z
      · exact z
      · cases z
    obtain ⟨y, hy, e⟩ := List.mem_map.1 ct
    refine ⟨y, List.mem_append_left _ hy, e, wl_long ?_⟩
    have := (fo2.made g hk).2.2.2 _ cs
    rw [tx] at this
    exact Nat.lt_of_le_of_lt (top y hy) this
  · have kF : ∀ k ∈ ks, k ∈ keysF F := fun k hk' => by
      have := hk.2.2 k hk'
      rw [keys_app] at this
      rcases List.mem_append.1 this with z | z
      · exact z
      · rw [List.mem_singleton.1 z] at hk'
        exact absurd hk' cs
    obtain ⟨y, hy, e, q⟩ := due s ks ⟨hk.1, hk.2.1, kF⟩
    have et : ks.flatMap (trOf (F ++ [x])) = ks.flatMap (trOf F) := by
      rw [List.flatMap_def, List.flatMap_def]
      congr 1
      exact List.map_congr_left fun k hk' => trOf_old (kF k hk')
    rw [← et] at q
    refine ⟨y, ?_, e, q⟩
    rcases List.mem_append.1 hy with z | z
    · exact List.mem_append_left _ (List.mem_append_left _ z)
    · by_cases c : y.1 = x.1
      · have u := getF_uniq (List.nodup_append.1 fo.nd).2.1 z
        have u2 := getF_uniq (List.nodup_append.1 fo.nd).2.1 hx
        rw [c, u2] at u
        rw [← Option.some.inj u]
        exact List.mem_append_left _ (List.mem_append_right _ (List.mem_singleton.2 rfl))
      · exact List.mem_append_right _ (List.mem_filter.2 ⟨z, decide_eq_true c⟩)
theorem over_mem {M : TM} {F : List Fe} {st : Int} {p : Int × List Int} : p ∈ overL M F st M.rs.length ↔ ∃ s ks, KidsOf M F s ks ∧ st ∈ ks ∧ M.to s ks ∉ keysF F ∧ p = (M.to s ks, (s : Int) :: ks.flatMap (trOf F)) := by
  unfold overL
  constructor
  · intro h
    obtain ⟨s, hs, h⟩ := List.mem_flatMap.1 h
    obtain ⟨ks, hk, e⟩ := List.mem_filterMap.1 h
    obtain ⟨l, m⟩ := (kidsL_mem _ _ _).1 hk
    unfold mkT at e
    by_cases c : st ∈ ks ∧ M.to s ks ∉ keysF F
    · rw [if_pos c] at e
      exact ⟨s, ks, ⟨List.mem_range.1 hs, l, m⟩, c.1, c.2, (Option.some.inj e).symm⟩
    · rw [if_neg c] at e
      cases e
  · rintro ⟨s, ks, ⟨h1, h2, h3⟩, c1, c2, rfl⟩
    exact List.mem_flatMap.2 ⟨s, List.mem_range.2 h1, List.mem_filterMap.2 ⟨ks, (kidsL_mem _ _ _).2 ⟨h2, h3⟩, if_pos ⟨c1, c2⟩⟩⟩
/-- one tree heeded -/
theorem Mid.next {M : TM} {F O O2 : List Fe} {st : Int} {don : List (Int × List Int)} (g : GoodT M) (h : Mid M F O st don) {p : Int × List Int} (hp : p ∈ overL M F st M.rs.length) (nd : (keysF F ++ keysF O2).Nodup)
    (h2 : ∀ y ∈ O2, y ∈ O ∨ (y.1 = p.1 ∧ y.2.2 = p.2)) (h3 : ∀ y ∈ O, ∃ z ∈ O2, z.1 = y.1 ∧ (z.2.2 = y.2.2 ∨ wordLt z.2.2 y.2.2 = true)) (h4 : ∃ z ∈ O2, z.1 = p.1 ∧ wordLt p.2 z.2.2 = false) : Mid M F O2 st (don ++ [p]) := by
  obtain ⟨s0, ks0, hk0, c1, c2, rfl⟩ := over_mem.1 hp
  obtain ⟨m1, m2, m3, m4⟩ := h.fo.made g hk0
  refine ⟨⟨nd, fun x hx => ?_, fun x hx => ?_, h.fo.lf, fun x hx => ?_, fun x hx y hy => ?_⟩, h.top, fun s ks hk hc => ?_⟩
  · rcases List.mem_append.1 hx with z | z
    · exact h.fo.rg x (List.mem_append_left _ z)
    · rcases h2 x z with z | ⟨z, _⟩
      · exact h.fo.rg x (List.mem_append_right _ z)
      · rw [z]
        exact m3
  · rcases List.mem_append.1 hx with z | z
    · exact h.fo.tr x (List.mem_append_left _ z)
    · rcases h2 x z with z | ⟨z, z2⟩
      · exact h.fo.tr x (List.mem_append_right _ z)
      · rw [z, z2]
        exact m1
  · rcases h2 x hx with z | ⟨_, z2⟩
    · exact h.fo.lo x z
    · rw [z2]
      exact m2
  · rcases h2 y hy with z | ⟨_, z2⟩
    · exact h.fo.or x hx y z
    · rw [z2]
      exact Nat.le_trans (h.top x hx) (Nat.le_of_lt (m4 st c1))
  · have old : Due M F O s ks → Due M F O2 s ks := by
      rintro ⟨y, hy, e, q⟩
      rcases List.mem_append.1 hy with z | z
      · exact ⟨y, List.mem_append_left _ z, e, q⟩
      · obtain ⟨z', hz, ez, w⟩ := h3 y z
        refine ⟨z', List.mem_append_right _ hz, ez.trans e, ?_⟩
        rcases w with w | w
        · rw [w]
          exact q
        · cases c : wordLt ((s : Int) :: ks.flatMap (trOf F)) z'.2.2 with
          | false => rfl
          | true => rw [wl_tr c w] at q; cases q
    rcases hc with z | z | z
    · exact old (h.due s ks hk (.inl z))
    · exact old (h.due s ks hk (.inr (.inl z)))
    · rcases List.mem_append.1 z with z | z
      · exact old (h.due s ks hk (.inr (.inr z)))
      · have e := List.mem_singleton.1 z
        obtain ⟨y, hy, ey, q⟩ := h4
        refine ⟨y, List.mem_append_right _ hy, ey.trans (congrArg Prod.fst e).symm, ?_⟩
        rw [show ((s : Int) :: ks.flatMap (trOf F)) = _ from congrArg Prod.snd e]
        exact q
theorem Mid.full {M : TM} {F O : List Fe} {st : Int} (h : Mid M F O st (overL M F st M.rs.length)) : Full M F O := by
  refine ⟨h.fo, fun s ks hk => h.due s ks hk ?_⟩
  by_cases c1 : st ∈ ks
  · by_cases c2 : M.to s ks ∈ keysF F
    · exact .inr (.inl c2)
    · exact .inr (.inr (over_mem.2 ⟨s, ks, hk, c1, c2, rfl⟩))
  · exact .inl c1
/-- the three ways to heed a tree -/
theorem Mid.new {M : TM} {F O : List Fe} {st : Int} {don : List (Int × List Int)} (g : GoodT M) (h : Mid M F O st don) {p : Int × List Int} (hp : p ∈ overL M F st M.rs.length) (hn : p.1 ∉ keysF O) (a : Addr) : Mid M F (O ++ [(p.1, a, p.2)]) st (don ++ [p]) := by
  obtain ⟨s0, ks0, hk0, c1, c2, e⟩ := over_mem.1 hp
  refine h.next g hp ?_ (fun y hy => ?_) (fun y hy => ⟨y, List.mem_append_left _ hy, rfl, .inl rfl⟩) ⟨_, List.mem_append_right _ (List.mem_singleton.2 rfl), rfl, wl_irr _⟩
  · rw [keys_app, ← List.append_assoc]
    refine List.nodup_append.2 ⟨h.fo.nd, List.nodup_cons.2 ⟨by simp, List.nodup_nil⟩, fun x hx y hy z => ?_⟩
    rw [List.mem_singleton.1 hy] at z
    rw [z] at hx
    rcases List.mem_append.1 hx with w | w
    · rw [e] at w
      exact c2 w
    · exact hn w
  · rcases List.mem_append.1 hy with z | z
    · exact .inl z
    · rw [List.mem_singleton.1 z]
      exact .inr ⟨rfl, rfl⟩
theorem Mid.keep {M : TM} {F O : List Fe} {st : Int} {don : List (Int × List Int)} (g : GoodT M) (h : Mid M F O st don) {p : Int × List Int} (hp : p ∈ overL M F st M.rs.length) {x : Fe} (hx : x ∈ O) (ex : x.1 = p.1) (hl : wordLt p.2 x.2.2 = false) : Mid M F O st (don ++ [p]) :=
  h.next g hp h.fo.nd (fun y hy => .inl hy) (fun y hy => ⟨y, hy, rfl, .inl rfl⟩) ⟨x, hx, ex, hl⟩
theorem Mid.rep {M : TM} {F O : List Fe} {st : Int} {don : List (Int × List Int)} (g : GoodT M) (h : Mid M F O st don) {p : Int × List Int} (hp : p ∈ overL M F st M.rs.length) {x : Fe} (hx : x ∈ O) (ex : x.1 = p.1) (hl : wordLt p.2 x.2.2 = true) (a : Addr) : Mid M F (repO O p.1 a p.2) st (don ++ [p]) := by
  refine h.next g hp (by rw [repO_keys]; exact h.fo.nd) (fun y hy => ?_) (fun y hy => ?_) ⟨(p.1, a, p.2), ?_, rfl, wl_irr _⟩
  · obtain ⟨z, hz, e⟩ := List.mem_map.1 hy
    by_cases c : z.1 = p.1
    · rw [if_pos c] at e
      rw [← e]
      exact .inr ⟨rfl, rfl⟩
    · rw [if_neg c] at e
      rw [← e]
      exact .inl hz
  · by_cases c : y.1 = p.1
    · have u := getF_uniq (List.nodup_append.1 h.fo.nd).2.1 hy
      have u2 := getF_uniq (List.nodup_append.1 h.fo.nd).2.1 hx
      rw [c, ← ex, u2] at u
      refine ⟨(p.1, a, p.2), List.mem_map.2 ⟨y, hy, if_pos c⟩, c.symm, .inr ?_⟩
      rw [← Option.some.inj u]
      exact hl
    · exact ⟨y, List.mem_map.2 ⟨y, hy, if_neg c⟩, rfl, .inl rfl⟩
  · exact List.mem_map.2 ⟨x, hx, if_pos ex⟩
end K63

set_option Elab.async false
set_option linter.all false
set_option maxRecDepth 100000
set_option maxHeartbeats 4000000
namespace K63
open PySem PySem.Spec PyProof.Rows L2 Mz
structure Leaf (M : TM) (O : List Fe) (i : Nat) : Prop where
  fo : FO M [] O
  lf : ∀ x ∈ O, ∃ s : Nat, s < i ∧ x.2.2 = [(s : Int)]
  due : ∀ s : Nat, s < i → M.rank (s : Int) = 0 → Due M [] O s []
theorem leaf0 (M : TM) : Leaf M [] 0 := ⟨⟨List.nodup_nil, fun x h => (by cases h), fun x h => (by cases h), fun x h => (by cases h), fun x h => (by cases h), fun x h => (by cases h)⟩, fun x h => (by cases h), fun s h => absurd h (Nat.not_lt_zero s)⟩
theorem Leaf.skip {M : TM} {O : List Fe} {i : Nat} (h : Leaf M O i) (hr : M.rank (i : Int) ≠ 0) : Leaf M O (i + 1) := ⟨h.fo, fun x hx => let ⟨s, h1, h2⟩ := h.lf x hx; ⟨s, by omega, h2⟩, fun s hs r0 => h.due s (by
  rcases Nat.lt_succ_iff_lt_or_eq.1 hs with z | z
  · exact z
  · rw [z] at r0
    exact absurd r0 hr) r0⟩
theorem leaf_kids {M : TM} {i : Nat} (hi : i < M.rs.length) (hr : M.rank (i : Int) = 0) : KidsOf M [] i [] := ⟨hi, by rw [hr]; rfl, fun k hk => by cases hk⟩
theorem Leaf.old {M : TM} {O : List Fe} {i : Nat} (h : Leaf M O i) (hr : M.rank (i : Int) = 0) (hk : M.to i [] ∈ keysF O) : Leaf M O (i + 1) := ⟨h.fo, fun x hx => let ⟨s, h1, h2⟩ := h.lf x hx; ⟨s, by omega, h2⟩, fun s hs r0 => by
  rcases Nat.lt_succ_iff_lt_or_eq.1 hs with z | z
  · exact h.due s z r0
  · subst z
    obtain ⟨x, hx, ex⟩ := List.mem_map.1 hk
    obtain ⟨s', h1, h2⟩ := h.lf x hx
    refine ⟨x, hx, ex, ?_⟩
    rw [h2]
    show wordLt [(s : Int)] [(s' : Int)] = false
    unfold wordLt
    rw [if_pos (show [(s : Int)].length = [(s' : Int)].length from rfl), HT.lexLt_cons, if_neg (by omega)]
    exact decide_eq_false (by omega)⟩
theorem Leaf.new {M : TM} {O : List Fe} {i : Nat} (g : GoodT M) (h : Leaf M O i) (hi : i < M.rs.length) (hr : M.rank (i : Int) = 0) (hk : M.to i [] ∉ keysF O) (a : Addr) : Leaf M (O ++ [(M.to i [], a, [(i : Int)])]) (i + 1) := by
  obtain ⟨m1, m2, m3, _⟩ := h.fo.made g (leaf_kids hi hr)
  have sp : ∀ {p : Fe → Prop}, (∀ x ∈ O, p x) → p (M.to i [], a, [(i : Int)]) → ∀ x ∈ O ++ [(M.to i [], a, [(i : Int)])], p x := fun h1 h2 x hx => by
    rcases List.mem_append.1 hx with z | z
    · exact h1 x z
    · rw [List.mem_singleton.1 z]
      exact h2
  refine ⟨⟨?_, sp h.fo.rg m3, sp h.fo.tr m1, (fun x hx => by cases hx), sp h.fo.lo m2, (fun x hx => by cases hx)⟩, sp (fun x hx => let ⟨s, h1, h2⟩ := h.lf x hx; ⟨s, by omega, h2⟩) ⟨i, by omega, rfl⟩, fun s hs r0 => ?_⟩
  · rw [keys_app]
    show ([] ++ (keysF O ++ [M.to i []])).Nodup
    rw [List.nil_append]
    have n1 : (keysF O).Nodup := h.fo.nd
    refine List.nodup_append.2 ⟨n1, List.nodup_cons.2 ⟨by simp, List.nodup_nil⟩, fun x hx y hy z => ?_⟩
    rw [List.mem_singleton.1 hy] at z
    rw [z] at hx
    exact hk hx
  · rcases Nat.lt_succ_iff_lt_or_eq.1 hs with z | z
    · obtain ⟨x, hx, e, q⟩ := h.due s z r0
      exact ⟨x, List.mem_append_right [] (List.mem_append_left _ (show x ∈ O from hx)), e, q⟩
    · subst z
      exact ⟨(M.to s [], a, [(s : Int)]), List.mem_append_right [] (List.mem_append_right _ (List.mem_singleton.2 rfl)), rfl, wl_irr [(s : Int)]⟩
theorem Leaf.full {M : TM} {O : List Fe} (g : GoodT M) (h : Leaf M O M.rs.length) : Full M [] O := by
  refine ⟨h.fo, fun s ks hk => ?_⟩
  have e : ks = [] := by
    cases ks with
    | nil => rfl
    | cons a b => exact absurd (hk.2.2 a List.mem_cons_self) (by simp)
  subst e
  refine h.due s hk.1 ?_
  obtain ⟨r1, r5, rb, _⟩ := ranks_iff.mp g.rk
  have rs : M.rs[s]? = some (M.rank (s : Int)) := by
    show _ = some (M.rs.getD (s : Int).toNat 0)
    rw [Int.toNat_natCast, List.getD_eq_getElem?_getD, List.getElem?_eq_getElem hk.1]
    rfl
  obtain ⟨r0, r3⟩ := rb _ (List.mem_of_getElem? rs)
  have := hk.2.1
  have : 0 = (M.rank (s : Int)).toNat := this
  omega
/-! ### the two dicts in the heap -/
theorem DicL.put {H : Hp} {d : Addr} {W W' : List Fe} (h : DicL H d W) (hs : ∀ x ∈ W', x ∈ W ∨ H x.2.1 = some (.lst (x.2.2.map V.int))) : DicL (upd H d (.dK (kvsF W'))) d W' := ⟨upd_same, fun x hx => by
  have e : H x.2.1 = some (.lst (x.2.2.map V.int)) := (hs x hx).elim (h.sub x) id
  exact (upd_ne fun z => by rw [z, h.top] at e; cases e).trans e⟩
theorem DicL.oth {H : Hp} {d e : Addr} {W W2 : List Fe} {u : HO} (h : DicL H d W) (h2 : DicL H e W2) (ne : d ≠ e) : DicL (upd H e u) d W := ⟨(upd_ne ne).trans h.top, fun x hx => (upd_ne fun z => by
  have := h.sub x hx
  rw [z, h2.top] at this
  cases this).trans (h.sub x hx)⟩
theorem tabS_upd {H : Hp} {P d : Addr} {q : Str} {W : List Fe} {u : HO} (t : LamX.TabS H P q) (h : DicL H d W) : LamX.TabS (upd H d u) P q := by
  obtain ⟨ps, h1, h2, h3⟩ := t
  refine ⟨ps, (upd_ne fun z => by rw [z, h.top] at h1; cases h1).trans h1, h2, fun pos cv hc => ?_⟩
  obtain ⟨c, e1, e2⟩ := h3 pos cv hc
  exact ⟨c, e1, (upd_ne fun z => by rw [z, h.top] at e2; unfold LamX.CodeO at e2; cases e2).trans e2⟩
theorem tabS_updF {H : Hp} {P d : Addr} {q : Str} {ob : Obj} {v u : HO} (t : LamX.TabS H P q) (h : H d = some (.frz ob v)) : LamX.TabS (upd H d u) P q := by
  obtain ⟨ps, h1, h2, h3⟩ := t
  refine ⟨ps, (upd_ne fun z => by rw [z, h] at h1; cases h1).trans h1, h2, fun pos cv hc => ?_⟩
  obtain ⟨c, e1, e2⟩ := h3 pos cv hc
  exact ⟨c, e1, (upd_ne fun z => by rw [z, h] at e2; unfold LamX.CodeO at e2; cases e2).trans e2⟩
theorem tabS_same {H H' : Hp} {P : Addr} {q : Str} (t : LamX.TabS H P q) (s : Same H H') : LamX.TabS H' P q := t.ext s
mutual
theorem dp_same {K : PySem.W.Frag} {H H' : Hp} (s : Same H H') : ∀ {v : V} {d : PyData}, Dp K H v d → Dp K H' v d
  | _, _, .non => .non
  | _, _, .bl b => .bl b
  | _, _, .int i => .int i
  | _, _, .str x => .str x
  | _, _, .lst h1 h2 => .lst (s.seq h1) (dpAll_same s h2)
  | _, _, .tup h1 h2 => .tup (same_seqT s h1) (dpAll_same s h2)
theorem dpAll_same {K : PySem.W.Frag} {H H' : Hp} (s : Same H H') : ∀ {vs : List V} {ds : List PyData}, DpAll K H vs ds → DpAll K H' vs ds
  | _, _, .nil => .nil
  | _, _, .cons h1 h2 => .cons (dp_same s h1) (dpAll_same s h2)
end
theorem dpAll_snoc {K : PySem.W.Frag} {H : Hp} {v : V} {d : PyData} (h : Dp K H v d) : ∀ {vs : List V} {ds : List PyData}, DpAll K H vs ds → DpAll K H (vs ++ [v]) (ds ++ [d])
  | _, _, .nil => .cons h .nil
  | _, _, .cons h1 h2 => .cons h1 (dpAll_snoc h h2)
theorem dp_tree {K : PySem.W.Frag} {H : Hp} {p a : Addr} {t : List Int} (h1 : H p = some (.tup [.int t.length, .ref a])) (h2 : H a = some (.lst (t.map V.int))) : Dp K H (.ref p) (wordD t) := .tup (SqT.of h1) (.cons (.int _) (.cons (.lst (SqL.of h2) (dp_ints t)) .nil))
theorem alike_tree (t u : List Int) : PySem.W.alike (wordD t) (wordD u) = true := alike_word t u
theorem depth_tree (t : List Int) : (wordD t).depth ≤ 60 := by
  have h := Mz.depth_ints t
  simp [wordD, PyData.depth, PyData.depthAll]
  omega
/-- the least one is the shortest -/
theorem best_short (ts : List (List Int)) : ∀ n, n < ts.length → ∃ b : List Int, ts[keyBest (ts.map wordD) n]? = some b ∧ ∀ i u, i ≤ n → ts[i]? = some u → wordLt u b = false
  | 0, h => by
    refine ⟨ts[0], List.getElem?_eq_getElem h, fun i u hi hu => ?_⟩
    have : i = 0 := by omega
    subst this
    rw [List.getElem?_eq_getElem h] at hu
    rw [← Option.some.inj hu]
    exact wl_irr _
  | n + 1, h => by
    obtain ⟨b, hb, q⟩ := best_short ts n (by omega)
    have e1 : (ts.map wordD).getD (n + 1) PyData.none = wordD ts[n + 1] := by
      rw [List.getD_eq_getElem?_getD, List.getElem?_map, List.getElem?_eq_getElem h]
      rfl
    have e2 : (ts.map wordD).getD (keyBest (ts.map wordD) n) PyData.none = wordD b := by
      rw [List.getD_eq_getElem?_getD, List.getElem?_map, hb]
      rfl
    have st : keyBest (ts.map wordD) (n + 1) = if wordLt ts[n + 1] b = true then n + 1 else keyBest (ts.map wordD) n := by
      rw [← dataLt_word, ← e1, ← e2]
      rfl
    rw [st]
    by_cases c : wordLt ts[n + 1] b = true
    · rw [if_pos c]
      refine ⟨_, List.getElem?_eq_getElem h, fun i u hi hu => ?_⟩
      by_cases e : i = n + 1
      · subst e
        rw [List.getElem?_eq_getElem h] at hu
        rw [← Option.some.inj hu]
        exact wl_irr _
      · cases w : wordLt u ts[n + 1] with
        | false => rfl
        | true =>
          have := q i u (by omega) hu
          rw [wl_tr w c] at this
          cases this
    · rw [if_neg c]
      refine ⟨b, hb, fun i u hi hu => ?_⟩
      by_cases e : i = n + 1
      · subst e
        rw [List.getElem?_eq_getElem h] at hu
        rw [← Option.some.inj hu]
        cases w : wordLt ts[n + 1] b with
        | false => rfl
        | true => exact absurd w c
      · exact q i u (by omega) hu
def valsF (F : List Fe) (n : Nat) : List V := (List.range n).map fun (i : Nat) => ((getF F (i : Int)).map fun x => V.ref x.2.1).getD V.non
def spUpTo (Pt : Addr) (q : Str) : Sp := fun vs H Q _ => ∃ (m : Addr) (M : TM) (most : Int), vs = [.ref m, .int most] ∧ TMA H m M ∧ GoodT M ∧ ((2 ^ M.outs.length : Nat) : Int) ≤ most ∧ LamX.TabS H Pt q ∧
  ∀ (H' : Hp) (l : Addr) (F : List Fe), Full M F [] → Kp Pt H H' → LamX.TabS H' Pt q → (∀ x ∈ F, H' x.2.1 = some (.lst (x.2.2.map V.int))) → H l = none → H' l = some (.lst (valsF F M.outs.length)) → Q (.ref l) H'
theorem tabS_g {H : Hp} {P : Addr} {q : Str} (t : LamX.TabS H P q) : GxR.TabG H P := let ⟨ps, h1, h2, _⟩ := t; ⟨ps, h1, h2⟩
end K63

set_option Elab.async false
set_option linter.all false
set_option maxRecDepth 100000
set_option maxHeartbeats 4000000
namespace K63
open PySem PySem.Spec PyProof.Rows L2 Mz
section
variable {P : Program} {w : World} {K : PySem.W.Frag} {mg : Str → Option Value} {base : Heap} {A : Ads} {c Pt : Addr}
theorem ok_upto (T : Txt K mg A) (TB : LamX.TabB base mg c Pt) (hc : A.d_trees_up_to.code = .ref c) : FnOk P w K mg base CX0 5 A.a_trees_up_to A.d_trees_up_to ["machine", "most"] (spUpTo Pt "_trees_up_to.<locals>.<lambda>") := by
  refine okC T.F_trees_up_to sc_trees_up_to (fun vs H Q E h => ?_) (fun Ar outer s H vs Q E hr h => ?_)
  · obtain ⟨_, _, _, rfl, _⟩ := h
    rfl
  · have G_tree_order := ok_treeorder (P := P) (w := w) (base := base) T
    have hr_tree_order : Room 1 (Ar.deeper (envOfC "_trees_up_to" (defScope s_trees_up_to) s.heap.objs.size A.a_trees_up_to A.d_trees_up_to.code)) := hr.mono (by omega)
    have G_trees_over := ok_over (P := P) (w := w) (base := base) T
    have hr_trees_over : Room 2 (Ar.deeper (envOfC "_trees_up_to" (defScope s_trees_up_to) s.heap.objs.size A.a_trees_up_to A.d_trees_up_to.code)) := hr.mono (by omega)
    refine ⟨_, (pss_cons (ps_asg (pv 0) (pg_tup rfl (pgs_cons (pg_name (i := 2) sc_trees_up_to.nd rfl (Or.inl rfl)) (pgs_cons (pg_name (i := 3) sc_trees_up_to.nd rfl (Or.inl rfl)) (pgs_cons (pg_name (i := 4) sc_trees_up_to.nd rfl (Or.inl rfl)) (pgs_cons (pg_name (i := 5) sc_trees_up_to.nd rfl (Or.inl rfl)) pgs_nil))))))
      (pss_cons (ps_set (i := 6) sc_trees_up_to.nd rfl (Or.inr rfl) pe_dnewK)
      (pss_cons (ps_set (i := 13) sc_trees_up_to.nd rfl (Or.inr rfl) pe_dnewK)
      (pss_cons (ps_for PassesOwn.never rfl (pi_enumT (by rfl) T.n_enumerate (pa_cons (pv 2) pa_nil)) (pg_tup rfl (pgs_cons (pg_name (i := 7) sc_trees_up_to.nd rfl (Or.inl rfl)) (pgs_cons (pg_name (i := 8) sc_trees_up_to.nd rfl (Or.inl rfl)) pgs_nil)))
        (pss_one (ps_if (pt_cmpR op_eq (pv 8) pe_int (nomark _)) (pss_one (ps_expr (pe_dsetd (pv 13) (pe_ix (r := rIx K) ix_seq (pe_ix (r := rIx K) ix_seq (pv 4) (pv 7) (fun _ _ => rfl)) pe_int (fun _ _ => rfl)) (pe_lst (pa_cons (pv 7) pa_nil)) ⟨rfl, rfl, rfl, rfl⟩))) pss_nil)))
      (pss_cons (ps_while PassesOwn.never (pt_truth (pv 13) (by intro _; rfl)) (pss_cons (ps_lock (ps_set (i := 9) sc_trees_up_to.nd rfl (Or.inl rfl) (pe_minLam (P := Pt) (c := c) (x := "one") (k := 1) rfl hr (by rfl) T.n_min TB hc rfl (lamF_by (show lamFB (defScope s_trees_up_to) _ _ = true by decide +kernel)) (pa_cons (pv 13) pa_nil) (by rfl) (show ¬ (("one" : Str) ∈ (["machine", "most", "ranks", "_", "rules", "outputs", "firsts", "symbol", "rank", "state", "after", "tree", "other", "offers"] : List Str)) by decide) (fun _ _ _ _ _ _ => rfl)
          (fun s' H' f c' hr2 => pe_call G_tree_order (hr2.mono (by decide)) (by rfl) T.g_tree_order T.F_tree_order.kp T.b_tree_order .nil pass0 (pa_cons (pe_dget (hu_of hr2) (pv 13) (pv 14) (fun _ _ => rfl)) pa_nil)))))
          (pss_cons (ps_asg (pe_dpop1 (pv 13) (pv 9) ⟨rfl, rfl, rfl, rfl⟩) (pg_sub (pv 6) (pv 9) (set_dict (hu_of hr))))
          (pss_one (ps_for PassesOwn.never rfl (pi_list (pe_call G_trees_over hr_trees_over (by rfl) T.g_trees_over T.F_trees_over.kp T.b_trees_over .nil pass0 (pa_cons (pv 0) (pa_cons (pv 6) (pa_cons (pv 9) pa_nil))))) (pg_tup rfl (pgs_cons (pg_name (i := 10) sc_trees_up_to.nd rfl (Or.inl rfl)) (pgs_cons (pg_name (i := 11) sc_trees_up_to.nd rfl (Or.inl rfl)) pgs_nil)))
            (pss_one (ps_if (pt_cmpR op_le (pe_callB call_len_seq (by rfl) T.n_len PySem.boot_len (pa_cons (pv 11) pa_nil)) (pv 1) (nomark _)) (pss_cons (ps_set (i := 12) sc_trees_up_to.nd rfl (Or.inl rfl) (pe_dsetd (pv 13) (pv 10) (pv 11) ⟨rfl, rfl, rfl, rfl⟩))
                  (pss_one (ps_if (pt_cmpR (op_ltD hr.units) (pe_call G_tree_order hr_tree_order (by rfl) T.g_tree_order T.F_tree_order.kp T.b_tree_order .nil pass0 (pa_cons (pv 11) pa_nil)) (pe_call G_tree_order hr_tree_order (by rfl) T.g_tree_order T.F_tree_order.kp T.b_tree_order .nil pass0 (pa_cons (pv 12) pa_nil)) (nomark _)) (pss_one (ps_asg (pv 11) (pg_sub (pv 13) (pv 10) (set_dict (hu_of hr))))) pss_nil))) pss_nil)))))))
      (pss_one (ps_ret (pe_lc (own := [("state", 9)]) (g := (gName 9)) (tt := tYes) rfl sc_trees_up_to.nd (pi_range1 (by rfl) T.n_range (pa_cons (pe_callB call_len_seq (by rfl) T.n_len PySem.boot_len (pa_cons (pv 5) pa_nil)) pa_nil)) (blkOk_by (N := ["machine", "most", "ranks", "_", "rules", "outputs", "firsts", "symbol", "rank", "state", "after", "tree", "other", "offers"]) (sc := defScope s_trees_up_to) (by decide +kernel)) (fun _ _ _ _ _ => (pg_name (i := 9) sc_trees_up_to.nd rfl (Or.inl rfl))) (fun _ _ _ _ _ => pts_nil) (fun _ _ _ _ _ => (pe_dget1 (hu_of hr) (pv 6) (pv 9) ⟨rfl, rfl, rfl, rfl⟩)))))))))), ?_⟩
    obtain ⟨m, M, most, rfl, hMA, g, hmost, hT, fin⟩ := h
    obtain ⟨r, ru, ou, qs, hM⟩ := id hMA
    obtain ⟨r1, r5, rb, _⟩ := ranks_iff.mp g.rk
    have n6 := g.n6
    have n1 := g.n1
    refine ⟨_, rfl, m, _, rfl, SqT.of hM.top, rfl, _, _, rfl, _, _, rfl, _, _, rfl, _, _, rfl, rfl, ?_⟩
    intro f hf
    have s0 := same_upd (o := .dK []) (Same.refl H) hf
    have f0 : (upd H f (.dK [])) f = some (.dK (kvsF [])) := upd_same
    generalize upd H f (.dK []) = H0 at *
    intro o ho
    have s1 := same_upd (o := .dK []) (Same.refl H0) ho
    have o0 : (upd H0 o (.dK [])) o = some (.dK (kvsF [])) := upd_same
    have f1 := s1 _ _ f0
    have ho0 := s0.free ho
    generalize upd H0 o (.dK []) = H1 at *
    have s01 := s0.trans s1
    have fo : f ≠ o := fun z => by
      rw [z, ho] at f0
      cases f0
    have lR : (M.rs.map V.int).length = M.rs.length := List.length_map ..
    refine ⟨_, rfl, r, rfl, .inr ⟨⟨_, rd_t (rd_same s01 hM.rs)⟩, ?_⟩⟩
    refine for_it (walk_enumT (xs := M.rs.map V.int)) (fun i σ H' => ∃ (v3 v7 v8 : Option V) (O : List Fe), σ = [some (.ref m), some (.int most), some (.ref r), v3, some (.ref ru), some (.ref ou), some (.ref f), v7, v8, none, none, none, none, some (.ref o)] ∧ Same H H' ∧ DicL H' f [] ∧ DicL H' o O ∧ Leaf M O i)
      ⟨_, none, none, [], rfl, s01, ⟨f1, fun x hx => by cases hx⟩, ⟨o0, fun x hx => by cases hx⟩, leaf0 M⟩ (fun i σ H' _ ⟨_, _, _, _, _, s, _⟩ => rd_t (rd_same s hM.rs)) ?_ ?_
    · rintro i y σ H2x H2 hi ⟨v3, v7, v8, O, rfl, s2, hF, hO, lf⟩ ⟨T', x, z, rfl, hT', rfl, h1, h2⟩
      obtain ⟨rk, hn, rfl⟩ := ofV h2
      cases h1
      rw [lR] at hi
      have s3 := same_upd (o := .tup [.int (i : Int), .int rk]) (Same.refl H2x) hT'
      have eT : (upd H2x T' (.tup [.int (i : Int), .int rk])) T' = some (.tup [.int (i : Int), .int rk]) := upd_same
      have hF := hF.same s3
      have hO := hO.same s3
      have s2 := s2.trans s3
      generalize upd H2x T' (.tup [.int (i : Int), .int rk]) = H3 at *
      have rkE : M.rank (i : Int) = rk := by
        show M.rs.getD (i : Int).toNat 0 = rk
        rw [Int.toNat_natCast, List.getD_eq_getElem?_getD, hn]
        rfl
      refine ⟨T', _, rfl, SqT.of eT, rfl, _, _, rfl, _, _, rfl, rfl, ?_⟩
      refine ⟨_, rfl, rfl, _, rfl, ?_⟩
      by_cases r0 : rk = 0
      · refine ifDT (decide_eq_true (by rw [r0])) ?_
        subst r0
        have iL : (i : Int) < (M.rs.length : Int) := by omega
        obtain ⟨er, p0, ep, t0, t1⟩ := entry_at g (s := (i : Int)) (by omega) iL (ks := []) (fun k hk => by cases hk) (by rw [rkE]; rfl)
        have hM3 := hM.same s2
        have eqi : qs[i]? = some (qs.getD i 0) := by
          have : i < qs.length := by rw [hM.len, g.rl]; exact hi
          rw [List.getD_eq_getElem?_getD, List.getElem?_eq_getElem this]
          rfl
        have hrow := hM3.row i _ _ eqi er
        have eqV : atI (qs.map V.ref) (i : Int) = some (V.ref (qs.getD i 0)) := atI_get? (by omega) (by rw [Int.toNat_natCast]; exact eqi)
        refine ⟨_, rfl, o, rfl, .inl ⟨_, .inl hO.top⟩, ?_⟩
        refine ⟨_, rfl, _, rfl, .inr (.inl ⟨ru, _, _, _, rfl, rfl, SqT.of hM3.ru, eqV, ?_⟩)⟩
        refine .inr (.inl ⟨_, _, 0, _, rfl, rfl, SqT.of hrow, atI_get? (by decide) ep, ?_⟩)
        refine ⟨_, rfl, (by show 1 ≤ sizeLine; decide), fun u hu => ?_⟩
        have s4 := same_upd (o := .lst [.int (i : Int)]) (Same.refl H3) hu
        have eu : (upd H3 u (.lst [.int (i : Int)])) u = some (.lst (([(i : Int)] : List Int).map V.int)) := upd_same
        generalize upd H3 u (.lst [.int (i : Int)]) = H4 at *
        have hF4 := hF.same s4
        have hO4 := hO.same s4
        have s5 := s2.trans s4
        have lO : O.length ≤ 6 := by
          have := lf.fo.len
          omega
        refine ⟨_, .inl (M.to i []), hO4.top, rfl, Nat.lt_of_le_of_lt (by rw [List.length_map]; exact lO) (by decide), fun v hv => ?_, fun hv => ?_⟩
        · refine ⟨_, _, _, O, rfl, s5, hF4, hO4, lf.old rkE ?_⟩
          rw [getF_eq] at hv
          refine getF_is.1 ?_
          cases e : getF O (M.to i []) with
          | none => rw [e] at hv; cases hv
          | some x => rfl
        · have nk : M.to i [] ∉ keysF O := fun z => by
            rw [getF_eq] at hv
            have := getF_is.2 z
            cases e : getF O (M.to i []) with
            | none => rw [e] at this; cases this
            | some x => rw [e] at hv; cases hv
          refine ⟨_, _, _, O ++ [(M.to i [], u, [(i : Int)])], rfl, same_set s5 ho0, hF4.oth hO4 fo, ?_, lf.new g hi rkE nk u⟩
          rw [put_new nk u [(i : Int)]]
          refine hO4.put fun x hx => ?_
          rcases List.mem_append.1 hx with z | z
          · exact .inl z
          · rw [List.mem_singleton.1 z]
            exact .inr eu
      · refine ifDF (decide_eq_false fun z => r0 (by injection z)) ?_
        exact ⟨_, _, _, O, rfl, s2, hF, hO, lf.skip (by rw [rkE]; exact r0)⟩
    · rintro σ H2 ⟨v3, v7, v8, O, rfl, s2, hF, hO, lf⟩
      rw [lR] at lf
      have full := lf.full g
      have hT2 := tabS_same hT s2
      refine ⟨fun k σ H' => ∃ (v3 v7 v8 v9 v10 v11 v12 : Option V) (F O : List Fe), k = M.outs.length - F.length ∧ σ = [some (.ref m), some (.int most), some (.ref r), v3, some (.ref ru), some (.ref ou), some (.ref f), v7, v8, v9, v10, v11, v12, some (.ref o)] ∧ Kp Pt H H' ∧ LamX.TabS H' Pt "_trees_up_to.<locals>.<lambda>" ∧ DicL H' f F ∧ DicL H' o O ∧ Full M F O,
        ⟨_, v3, v7, v8, none, none, none, none, [], O, rfl, rfl, Kp.of (tabS_g hT) s2, hT2, hF, hO, full⟩, ?_⟩
      clear full hT2 hF hO lf O v3 v7 v8 s2 H2
      rintro k σ H2 ⟨v3, v7, v8, v9, v10, v11, v12, F, O, rfl, rfl, k2, hT2, hF, hO, full⟩
      have lFO := full.1.len
      refine ⟨_, rfl, _, .inr (.inr ⟨_, hO.top, rfl⟩), ?_⟩
      cases O with
      | nil =>
        refine ifDF rfl ?_
        have hM2 := Kp.tmt (tabS_g hT) k2 hM
        refine ⟨_, rfl, ou, _, rfl, .inr (SqT.of hM2.ou), ?_⟩
        rw [show (M.outs.map V.int).length = M.outs.length from List.length_map ..]
        refine ⟨M.outs.length, rfl, by omega, by omega, fun D hD => ?_⟩
        have sD : ∀ u : HO, Same H2 (upd H2 D u) := fun u => same_upd (Same.refl _) hD
        have vat : ∀ t : Nat, t < M.outs.length → (valsF F M.outs.length)[t]? = some (((getF F (t : Int)).map fun x => V.ref x.2.1).getD V.non) := fun t ht => by
          unfold valsF
          rw [List.getElem?_map, List.getElem?_range ht]
          rfl
        have lv : (valsF F M.outs.length).length = M.outs.length := by
          unfold valsF
          rw [List.length_map, List.length_range]
        refine lc_range (fun t H3 => H3 = upd H2 D (.lst ((valsF F M.outs.length).take t))) rfl ?_ ?_
        · rintro t H3 ht rfl
          have ht : t < M.outs.length := ht
          refine ⟨rfl, ?_⟩
          have hF3 := hF.same (sD (.lst ((valsF F M.outs.length).take t)))
          have fin' : ∀ v, v = ((getF F ((0 : Int) + (t : Int))).map fun x => V.ref x.2.1).getD V.non → ∃ acc, (upd H2 D (.lst ((valsF F M.outs.length).take t))) D = some (.lst acc) ∧ acc.length < sizeLine ∧ upd (upd H2 D (.lst ((valsF F M.outs.length).take t))) D (.lst (acc ++ [v])) = upd H2 D (.lst ((valsF F M.outs.length).take (t + 1))) := fun v ev => by
            refine ⟨_, upd_same, Nat.lt_of_le_of_lt (by rw [List.length_take, lv]; omega : _ ≤ 6) (by decide), ?_⟩
            rw [upd_upd, take_more (vat t ht), ev, Int.zero_add]
          refine ⟨_, rfl, f, rfl, .inl ⟨_, .inl hF3.top⟩, _, rfl, ?_⟩
          have dg := DGet.k (k := .inl ((0 : Int) + (t : Int))) hF3.top
          rw [getF_eq] at dg
          exact ⟨_, dg, fin' _ rfl⟩
        · rintro H3 rfl
          have e : (valsF F M.outs.length).take ((M.outs.length : Nat) : Int).toNat = valsF F M.outs.length := List.take_of_length_le (by rw [lv]; omega)
          rw [e]
          refine fin _ D F full (k2.andS (sD _)) (tabS_same hT2 (sD _)) (fun x hx => sD _ _ _ (hF.sub x hx)) ?_ upd_same
          cases e2 : H D with
          | none => rfl
          | some u =>
            by_cases c : D = Pt
            · obtain ⟨ps, h1, _⟩ := hT2
              rw [← c, hD] at h1
              cases h1
            · have := k2.keep _ _ c e2
              rw [hD] at this
              cases this
      | cons x0 O0 =>
        refine ifDT rfl ?_
        have lO : 0 < (x0 :: O0).length := Nat.succ_pos _
        generalize x0 :: O0 = O at *
        obtain ⟨fo1, due1⟩ := id full
        have ndO : (keysF O).Nodup := (List.nodup_append.1 fo1.nd).2.1
        have len64 : ∀ x ∈ F ++ O, x.2.2.length ≤ 128 := fun x hx => by
          have p1 : F.length + 1 ≤ 7 := by omega
          have p2 : 2 ^ (F.length + 1) ≤ 2 ^ 7 := Nat.pow_le_pow_right (by decide) p1
          have p3 : 2 ^ F.length ≤ 2 ^ (F.length + 1) := Nat.pow_le_pow_right (by decide) (by omega)
          rcases List.mem_append.1 hx with z | z
          · have := fo1.lf x z
            omega
          · have := fo1.lo x z
            omega
        refine ⟨fun σ' H' => ∃ (v3 v7 v8 v9 v10 v11 v12 : Option V) (F' O' : List Fe), F'.length = F.length + 1 ∧ σ' = [some (.ref m), some (.int most), some (.ref r), v3, some (.ref ru), some (.ref ou), some (.ref f), v7, v8, v9, v10, v11, v12, some (.ref o)] ∧ Kp Pt H H' ∧ LamX.TabS H' Pt "_trees_up_to.<locals>.<lambda>" ∧ DicL H' f F' ∧ DicL H' o O' ∧ Full M F' O',
          fun σ' H' ⟨w3, w7, w8, w9, w10, w11, w12, F', O', l1, e, k, t, a, b, c⟩ => ⟨_, by rw [l1]; omega, w3, w7, w8, w9, w10, w11, w12, F', O', rfl, e, k, t, a, b, c⟩, ?_⟩
        refine ⟨o, _, hO.top, True.intro, fun od => ?_⟩
        have tL := tabS_upd (u := .frz od (.dK (kvsF O))) hT2 hO
        have oL : (upd H2 o (.frz od (.dK (kvsF O)))) o = some (.frz od (.dK (kvsF O))) := upd_same
        have keepL : ∀ {b : Addr} {u : HO}, b ≠ o → H2 b = some u → (upd H2 o (.frz od (.dK (kvsF O)))) b = some u := fun n e => (upd_ne n).trans e
        have sub : ∀ x ∈ O, (upd H2 o (.frz od (.dK (kvsF O)))) x.2.1 = some (.lst (x.2.2.map V.int)) := fun x hx => keepL (hO.ne hx) (hO.sub x hx)
        have fP : o ≠ Pt := fun z => by
          obtain ⟨ps, h1, _⟩ := hT2
          rw [← z, hO.top] at h1
          cases h1
        refine ⟨_, rfl, tL, fun fl c' H3 gr nn T3 fl0 fl1 c1 => ?_⟩
        have o3 := gr _ _ oL fP
        have sub3 : ∀ x ∈ O, H3 x.2.1 = some (.lst (x.2.2.map V.int)) := fun x hx => gr _ _ (sub x hx) fun z => by
          obtain ⟨ps, h1, _⟩ := tL
          rw [← z, sub x hx] at h1
          cases h1
        have lkv : (kvsF O).length = O.length := List.length_map ..
        refine ⟨fl, c', o, od, kvsF O, O.map fun x : Fe => wordD x.2.2, rfl, fl1, c1, let ⟨ps, h1, _⟩ := T3; ⟨ps, h1⟩, rfl, o3, by rw [lkv]; exact lO, by rw [lkv, List.length_map], fun e he e' he' => ?_, fun e he => ?_,
          fun i ks H' => Same H3 H' ∧ DpAll K H' ks ((O.map fun x : Fe => wordD x.2.2).take i), ⟨Same.refl _, .nil⟩, fun i ks H' w => ⟨fun b u e _ => w.1 _ _ e, w.2⟩, fun i k v ks H' hk w => ?_, fun ks H' k v w hk => ?_⟩
        · obtain ⟨x, _, rfl⟩ := List.mem_map.1 he
          obtain ⟨y, _, rfl⟩ := List.mem_map.1 he'
          exact alike_tree _ _
        · obtain ⟨x, _, rfl⟩ := List.mem_map.1 he
          exact ⟨fun z => (by cases z), depth_tree _⟩
        · rw [List.getElem?_map] at hk
          obtain ⟨x, hx, e⟩ := Option.map_eq_some_iff.1 hk
          cases e
          have xm := List.mem_of_getElem? hx
          have dg : DGet H' o (.int x.1) (some (.ref x.2.1)) := .inl ⟨kvsF O, .inl x.1, .inr ⟨od, w.1 _ _ o3⟩, rfl, by rw [getF_eq, getF_uniq ndO xm]; rfl⟩
          refine ⟨_, rfl, _, rfl, o, _, rfl, dg, ?_⟩
          refine ⟨x.2.1, x.2.2, rfl, w.1 _ _ (sub3 x xm), Nat.le_trans (len64 x (List.mem_append_right _ xm)) (by decide), fun p hp => ?_⟩
          have s4 := same_upd (o := .tup [.int x.2.2.length, .ref x.2.1]) (Same.refl H') hp
          refine ⟨w.1.trans s4, ?_⟩
          rw [show (O.map fun x : Fe => wordD x.2.2).take (i + 1) = (O.map fun x : Fe => wordD x.2.2).take i ++ [wordD x.2.2] from take_more (by rw [List.getElem?_map, hx]; rfl)]
          exact dpAll_snoc (dp_tree upd_same (s4 _ _ (w.1 _ _ (sub3 x xm)))) (dpAll_same s4 w.2)
        · rw [List.getElem?_map] at hk
          obtain ⟨x, hx, e⟩ := Option.map_eq_some_iff.1 hk
          cases e
          have xm := List.mem_of_getElem? hx
          obtain ⟨w1, _⟩ := w
          have mn : ∀ y ∈ O, x.2.2.length ≤ y.2.2.length := fun y hy => by
            obtain ⟨b, hb, q⟩ := best_short (O.map fun x : Fe => x.2.2) (O.length - 1) (by rw [List.length_map]; omega)
            rw [List.map_map] at hb
            have hb : (O.map fun x : Fe => x.2.2)[keyBest (O.map fun x : Fe => wordD x.2.2) (O.length - 1)]? = some b := hb
            rw [lkv] at hx
            rw [List.getElem?_map, hx] at hb
            have hb : x.2.2 = b := Option.some.inj hb
            obtain ⟨i, hi⟩ := List.mem_iff_getElem?.1 hy
            have := q i y.2.2 (by have := (List.getElem?_eq_some_iff.1 hi).1; omega) (by rw [List.getElem?_map, hi]; rfl)
            rw [hb]
            exact wl_len this
          have o4 := w1 _ _ o3
          refine ⟨o4, ?_⟩
          have T4 := tabS_updF (u := .dK (kvsF O)) (tabS_same T3 w1) o4
          have keep4 : ∀ {b : Addr} {u : HO}, b ≠ o → b ≠ Pt → H2 b = some u → (upd H' o (.dK (kvsF O))) b = some u := fun n1 n2 e => (upd_ne n1).trans (w1 _ _ (gr _ _ (keepL n1 e) n2))
          have nPt : ∀ {b : Addr} {u : HO}, H2 b = some u → (∀ z, u ≠ .tbl z) → b ≠ Pt := fun {b u} e n z => by
            obtain ⟨ps, h1, _⟩ := hT2
            rw [z, h1] at e
            exact n _ (Option.some.inj e).symm
          have hF4 : DicL (upd H' o (.dK (kvsF O))) f F := ⟨keep4 fo (nPt hF.top (fun _ z => by cases z)) hF.top, fun y hy => keep4 (fun z => by have := hF.sub y hy; rw [z, hO.top] at this; cases this) (nPt (hF.sub y hy) (fun _ z => by cases z)) (hF.sub y hy)⟩
          have hO4 : DicL (upd H' o (.dK (kvsF O))) o O := ⟨upd_same, fun y hy => keep4 (hO.ne hy) (nPt (hO.sub y hy) (fun _ z => by cases z)) (hO.sub y hy)⟩
          have k4 : Kp Pt H (upd H' o (.dK (kvsF O))) := ⟨tabS_g T4, fun b u n e => keep4 (fun z => by rw [z, ho0] at e; cases e) n (k2.keep _ _ n e)⟩
          generalize upd H' o (.dK (kvsF O)) = H4 at *
          have vx : valV (kvsF O) (.inl x.1) = some (.ref x.2.1) := by rw [getF_eq, getF_uniq ndO xm]; rfl
          refine ⟨_, rfl, o, rfl, .inl ⟨_, .inl hO4.top⟩, _, rfl, kvsF O, .inl x.1, _, hO4.top, rfl, vx, ?_⟩
          rw [drop_is]
          have hF5 := hF4.oth (u := .dK (kvsF (offO O x.1))) hO4 fo
          have hO5 := hO4.put (W' := offO O x.1) fun y hy => .inl (List.mem_filter.1 hy).1
          have T5 := tabS_upd (u := .dK (kvsF (offO O x.1))) T4 hO4
          have x5 : (upd H4 o (.dK (kvsF (offO O x.1)))) x.2.1 = some (.lst (x.2.2.map V.int)) := (upd_ne (hO4.ne xm)).trans (hO4.sub x xm)
          have k5 : Kp Pt H (upd H4 o (.dK (kvsF (offO O x.1)))) := ⟨tabS_g T5, fun b u n e => (upd_ne fun z => by rw [z, ho0] at e; cases e).trans (k4.keep _ _ n e)⟩
          generalize upd H4 o (.dK (kvsF (offO O x.1))) = H5 at *
          have xn := fo1.off xm
          refine ⟨_, rfl, _, rfl, f, _, rfl, DPut.k (k := .inl x.1) hF5.top (Nat.lt_of_le_of_lt (by rw [List.length_map]; omega : _ ≤ 6) (by decide)), ?_⟩
          rw [show putK (kvsF F) (.inl x.1) (V.ref x.2.1) = kvsF (F ++ [x]) from put_new xn x.2.1 x.2.2]
          have hF6 := hF5.put (W' := F ++ [x]) fun y hy => by
            rcases List.mem_append.1 hy with z | z
            · exact .inl z
            · rw [List.mem_singleton.1 z]
              exact .inr x5
          have hO6 := hO5.oth (u := .dK (kvsF (F ++ [x]))) hF5 (fun z => fo z.symm)
          have T6 := tabS_upd (u := .dK (kvsF (F ++ [x]))) T5 hF5
          have k6 : Kp Pt H (upd H5 f (.dK (kvsF (F ++ [x])))) := ⟨tabS_g T6, fun b u n e => (upd_ne fun z => by rw [z, hf] at e; cases e).trans (k5.keep _ _ n e)⟩
          generalize upd H5 f (.dK (kvsF (F ++ [x]))) = H6 at *
          have mid := mid0 g full xm mn
          have lF : (F ++ [x]).length = F.length + 1 := by rw [List.length_append]; rfl
          have rgF : ∀ y ∈ F ++ [x], y ∈ F ++ O := fun y hy => by
            rcases List.mem_append.1 hy with z | z
            · exact List.mem_append_left _ z
            · rw [List.mem_singleton.1 z]
              exact List.mem_append_right _ xm
          refine ⟨_, rfl, _, rfl, _, rfl, m, f, M, F ++ [x], x.1, rfl, k6.tma (tabS_g hT) hMA, g, hF6, by rw [lF]; omega, fun y hy => ⟨fo1.rg y (rgF y hy), Nat.le_trans (len64 y (rgF y hy)) (by decide)⟩, fun H7 l ts s7 nl el rel => ?_⟩
          have lo : l ≠ o := fun z => by
            rw [z, hO6.top] at nl
            cases nl
          refine ⟨l, rfl, ⟨_, SqL.of el⟩, ?_⟩
          refine for_it (walk_list (xs := ts.map V.ref)) (fun j σ H' => ∃ (v10 v11 v12 : Option V) (Oj : List Fe), σ = [some (.ref m), some (.int most), some (.ref r), v3, some (.ref ru), some (.ref ou), some (.ref f), v7, v8, some (.int x.1), v10, v11, v12, some (.ref o)] ∧ Kq o H7 H' ∧ Kp Pt H H' ∧ LamX.TabS H' Pt "_trees_up_to.<locals>.<lambda>" ∧ DicL H' f (F ++ [x]) ∧ DicL H' o Oj ∧ Mid M (F ++ [x]) Oj x.1 ((overL M (F ++ [x]) x.1 M.rs.length).take j))
            ⟨v10, v11, v12, offO O x.1, rfl, Kq.refl, k6.andS s7, tabS_same T6 s7, hF6.same s7, hO6.same s7, mid⟩ (fun j σ H' _ ⟨_, _, _, _, _, k, _⟩ => SqL.of (k _ _ lo el)) ?_ ?_
          · rintro j y σ H8x H8 hj ⟨v10, v11, v12, Oj, rfl, kq, k8, T8, hF8, hO8, mid8⟩ ⟨rfl, hy⟩
            obtain ⟨tj, htj, rfl⟩ := ofV hy
            obtain ⟨p, hp, u, gt, gu, gne⟩ := rel.to htj
            have o7 := (hO6.same s7).top
            have gt8 : H8 tj = some (.tup [.int p.1, .ref u]) := kq _ _ (fun z => by rw [z, o7] at gt; cases gt) gt
            have gu8 : H8 u = some (.lst (p.2.map V.int)) := kq _ _ (fun z => by rw [z, o7] at gu; cases gu) gu
            have pm := List.mem_of_getElem? hp
            have more := take_more hp
            obtain ⟨s0, ks0, hk0, c1, c2, ep⟩ := over_mem.1 pm
            obtain ⟨m1, m2, m3, _⟩ := mid8.fo.made g hk0
            have e1 : p.1 = M.to s0 ks0 := congrArg Prod.fst ep
            have e2 : p.2 = (s0 : Int) :: ks0.flatMap (trOf (F ++ [x])) := congrArg Prod.snd ep
            rw [← e2] at m2
            rw [← e1] at c2 m3
            have fits : (F ++ [x]).length + 1 ≤ M.outs.length := by
              have n1 := (List.nodup_append.1 mid8.fo.nd).1
              have := in_range_len (n := M.outs.length) (ks := keysF (F ++ [x]) ++ [p.1]) (List.nodup_append.2 ⟨n1, List.nodup_cons.2 ⟨by simp, List.nodup_nil⟩, fun a ha b hb z => by
                rw [List.mem_singleton.1 hb] at z
                rw [z] at ha
                exact c2 ha⟩) fun k hk => by
                  rcases List.mem_append.1 hk with z | z
                  · obtain ⟨y, hy, rfl⟩ := List.mem_map.1 z
                    exact mid8.fo.rg y (List.mem_append_left _ hy)
                  · rw [List.mem_singleton.1 z]
                    exact m3
              rw [List.length_append, List.length_map] at this
              exact this
            have l2 : p.2.length < 2 ^ M.outs.length := Nat.lt_of_lt_of_le m2 (Nat.pow_le_pow_right (by decide) fits)
            have l64 : p.2.length ≤ 64 := by
              have := Nat.pow_le_pow_right (show 0 < 2 by decide) n6
              omega
            have lOj : Oj.length ≤ 6 := by
              have := mid8.fo.len
              omega
            refine ⟨tj, _, rfl, SqT.of gt8, rfl, _, _, rfl, _, _, rfl, rfl, ?_⟩
            refine ⟨_, rfl, u, _, rfl, .inl (SqL.of gu8), ?_⟩
            rw [show (p.2.map V.int).length = p.2.length from List.length_map ..]
            refine ⟨_, rfl, _, _, rfl, rfl, _, rfl, ?_⟩
            refine ifDT (decide_eq_true (by omega)) ?_
            refine ⟨_, rfl, o, rfl, .inl ⟨_, .inl hO8.top⟩, _, rfl, _, rfl, kvsF Oj, .inl p.1, hO8.top, rfl, Nat.lt_of_le_of_lt (by rw [List.length_map]; exact lOj) (by decide), fun v hv => ?_, fun hv => ?_⟩
            · rw [getF_eq] at hv
              cases ez : getF Oj p.1 with
              | none => rw [ez] at hv; cases hv
              | some z =>
                rw [ez] at hv
                cases hv
                obtain ⟨zm, zk⟩ := getF_some ez
                have z8 := hO8.sub z zm
                have lz : z.2.2.length ≤ 1000000 := by
                  have q1 := mid8.fo.lo z zm
                  have q2 := Nat.pow_le_pow_right (show 0 < 2 by decide) (show (F ++ [x]).length + 1 ≤ 7 by omega)
                  omega
                refine ⟨_, rfl, u, p.2, rfl, gu8, Nat.le_trans l64 (by decide), fun q1 hq1 => ?_⟩
                have s9 := same_upd (o := .tup [.int p.2.length, .ref u]) (Same.refl H8) hq1
                have eq1 : (upd H8 q1 (.tup [.int p.2.length, .ref u])) q1 = some (.tup [.int p.2.length, .ref u]) := upd_same
                generalize upd H8 q1 (.tup [.int p.2.length, .ref u]) = H9 at *
                refine ⟨_, rfl, z.2.1, z.2.2, rfl, s9 _ _ z8, lz, fun q2 hq2 => ?_⟩
                have s10 := same_upd (o := .tup [.int z.2.2.length, .ref z.2.1]) (Same.refl H9) hq2
                have eq2 : (upd H9 q2 (.tup [.int z.2.2.length, .ref z.2.1])) q2 = some (.tup [.int z.2.2.length, .ref z.2.1]) := upd_same
                generalize upd H9 q2 (.tup [.int z.2.2.length, .ref z.2.1]) = H10 at *
                have sA := s9.trans s10
                refine ⟨wordD p.2, wordD z.2.2, dp_tree (s10 _ _ eq1) (sA _ _ gu8), dp_tree eq2 (sA _ _ z8), alike_tree _ _, (fun z => by cases z), depth_word _ _, _, rfl, ?_⟩
                rw [dataLt_word]
                cases cw : wordLt p.2 z.2.2 with
                | true =>
                  refine ifDT rfl ?_
                  refine ⟨_, rfl, _, rfl, _, rfl, o, _, rfl, DPut.k (k := .inl p.1) (hO8.same sA).top (Nat.lt_of_le_of_lt (by rw [List.length_map]; exact lOj) (by decide)), ?_⟩
                  have inO : p.1 ∈ keysF Oj := List.mem_map.2 ⟨z, zm, zk⟩
                  rw [show putK (kvsF Oj) (.inl p.1) (V.ref u) = kvsF (repO Oj p.1 u p.2) from put_old inO u p.2]
                  have hOA := hO8.same sA
                  refine ⟨_, _, _, repO Oj p.1 u p.2, rfl, (kq.trans (Kq.of sA)).trans Kq.set, ?_, tabS_upd (tabS_same T8 sA) hOA, (hF8.same sA).oth hOA fo, hOA.put fun y hy => ?_, ?_⟩
                  · have kA := k8.andS sA
                    exact ⟨tabS_g (tabS_upd (tabS_same T8 sA) hOA), fun b w n e => (upd_ne fun z => by rw [z, ho0] at e; cases e).trans (kA.keep _ _ n e)⟩
                  · obtain ⟨y0, hy0, ey⟩ := List.mem_map.1 hy
                    by_cases cc : y0.1 = p.1
                    · rw [if_pos cc] at ey
                      rw [← ey]
                      exact .inr (sA _ _ gu8)
                    · rw [if_neg cc] at ey
                      rw [← ey]
                      exact .inl hy0
                  · rw [more]
                    exact mid8.rep g pm zm zk cw u
                | false =>
                  refine ifDF rfl ?_
                  refine ⟨_, _, _, Oj, rfl, kq.trans (Kq.of sA), k8.andS sA, tabS_same T8 sA, hF8.same sA, hO8.same sA, ?_⟩
                  rw [more]
                  exact mid8.keep g pm zm zk cw
            · have nk : p.1 ∉ keysF Oj := fun z => by
                rw [getF_eq] at hv
                have := getF_is.2 z
                cases e : getF Oj p.1 with
                | none => rw [e] at this; cases this
                | some x => rw [e] at hv; cases hv
              rw [show putK (kvsF Oj) (.inl p.1) (V.ref u) = kvsF (Oj ++ [(p.1, u, p.2)]) from put_new nk u p.2]
              have hO9 := hO8.put (W' := Oj ++ [(p.1, u, p.2)]) fun y hy => by
                rcases List.mem_append.1 hy with z | z
                · exact .inl z
                · rw [List.mem_singleton.1 z]
                  exact .inr gu8
              have hF9 := hF8.oth (u := .dK (kvsF (Oj ++ [(p.1, u, p.2)]))) hO8 fo
              have T9 := tabS_upd (u := .dK (kvsF (Oj ++ [(p.1, u, p.2)]))) T8 hO8
              have k9 : Kp Pt H (upd H8 o (.dK (kvsF (Oj ++ [(p.1, u, p.2)])))) := ⟨tabS_g T9, fun b w n e => (upd_ne fun z => by rw [z, ho0] at e; cases e).trans (k8.keep _ _ n e)⟩
              have kq9 : Kq o H7 (upd H8 o (.dK (kvsF (Oj ++ [(p.1, u, p.2)])))) := kq.trans Kq.set
              have gu9 : (upd H8 o (.dK (kvsF (Oj ++ [(p.1, u, p.2)])))) u = some (.lst (p.2.map V.int)) := (upd_ne fun z => by rw [z, hO8.top] at gu8; cases gu8).trans gu8
              generalize upd H8 o (.dK (kvsF (Oj ++ [(p.1, u, p.2)]))) = H9 at *
              refine ⟨_, rfl, u, p.2, rfl, gu9, Nat.le_trans l64 (by decide), fun q1 hq1 => ?_⟩
              have s10 := same_upd (o := .tup [.int p.2.length, .ref u]) (Same.refl H9) hq1
              have eq1 : (upd H9 q1 (.tup [.int p.2.length, .ref u])) q1 = some (.tup [.int p.2.length, .ref u]) := upd_same
              generalize upd H9 q1 (.tup [.int p.2.length, .ref u]) = H10 at *
              refine ⟨_, rfl, u, p.2, rfl, s10 _ _ gu9, Nat.le_trans l64 (by decide), fun q2 hq2 => ?_⟩
              have s11 := same_upd (o := .tup [.int p.2.length, .ref u]) (Same.refl H10) hq2
              have eq2 : (upd H10 q2 (.tup [.int p.2.length, .ref u])) q2 = some (.tup [.int p.2.length, .ref u]) := upd_same
              generalize upd H10 q2 (.tup [.int p.2.length, .ref u]) = H11 at *
              have sA := s10.trans s11
              refine ⟨wordD p.2, wordD p.2, dp_tree (s11 _ _ eq1) (sA _ _ gu9), dp_tree eq2 (sA _ _ gu9), alike_tree _ _, (fun z => by cases z), depth_word _ _, _, rfl, ?_⟩
              rw [dataLt_word, wl_irr]
              refine ifDF rfl ?_
              refine ⟨_, _, _, Oj ++ [(p.1, u, p.2)], rfl, kq9.trans (Kq.of sA), k9.andS sA, tabS_same T9 sA, hF9.same sA, hO9.same sA, ?_⟩
              rw [more]
              exact mid8.new g pm nk u
          · rintro σ H8 ⟨v10, v11, v12, Oj, rfl, kq, k8, T8, hF8, hO8, mid8⟩
            rw [List.length_map, rel.1, List.take_length] at mid8
            exact ⟨_, _, _, _, _, _, _, F ++ [x], Oj, lF, rfl, k8, T8, hF8, hO8, mid8.full⟩
end
end K63

set_option Elab.async false
set_option linter.all false
set_option maxRecDepth 100000
set_option maxHeartbeats 4000000
namespace K63
open PySem PySem.Spec PyProof.Rows L2 Mz
def spFirst (Pt : Addr) (q : Str) : Sp := fun vs H Q _ => ∃ (m : Addr) (M : TM), vs = [.ref m] ∧ TMA H m M ∧ GoodT M ∧ LamX.TabS H Pt q ∧
  ∀ (H' : Hp) (l : Addr) (F : List Fe), Full M F [] → Kp Pt H H' → LamX.TabS H' Pt q → (∀ x ∈ F, H' x.2.1 = some (.lst (x.2.2.map V.int))) → H l = none → H' l = some (.lst (valsF F M.outs.length)) → Q (.ref l) H'
def spRuleT (K : PySem.W.Frag) : Sp := fun vs H Q _ => ∃ (m kd : Addr) (M : TM) (s : Int) (ks : List Int), vs = [.ref m, .int s, .ref kd] ∧ TMA H m M ∧ GoodT M ∧ 0 ≤ s ∧ s < (M.rs.length : Int) ∧ SqT K H kd (ks.map V.int) ∧ (∀ k ∈ ks, 0 ≤ k ∧ k < M.n) ∧ ks.length = (M.rank s).toNat ∧ Q (.int (M.to s ks)) H
section
variable {P : Program} {w : World} {K : PySem.W.Frag} {mg : Str → Option Value} {base : Heap} {A : Ads} {c Pt : Addr}
theorem ok_first (T : Txt K mg A) (TB : LamX.TabB base mg c Pt) (hc : A.d_trees_up_to.code = .ref c) : FnOk P w K mg base CX0 6 A.a_first_trees A.d_first_trees ["machine"] (spFirst Pt "_trees_up_to.<locals>.<lambda>") := by
  have G_trees_up_to := ok_upto (P := P) (w := w) (base := base) T TB hc
  refine T.F_first_trees.ok sc_first_trees (fun vs H Q E h => ?_) (fun cdv Ar outer s H vs Q E hr h => ?_)
  · obtain ⟨_, _, rfl, _⟩ := h
    rfl
  · have hr_trees_up_to : Room 5 (Ar.deeper (envOfC "first_trees" (C8.fnScope s_first_trees) s.heap.objs.size A.a_first_trees cdv)) := hr
    refine ⟨_, (pss_one (ps_ret (pe_call G_trees_up_to hr_trees_up_to (by rfl) T.g_trees_up_to T.F_trees_up_to.kp T.b_trees_up_to .nil pass0 (pa_cons (pv 0) (pa_cons (C8.pe_gc (v := .int 400) (by rfl) T.c_MAX_NODES) pa_nil))))), ?_⟩
    obtain ⟨m, M, rfl, hMA, g, hT, fin⟩ := h
    have n6 := g.n6
    have p := Nat.pow_le_pow_right (show 0 < 2 by decide) n6
    exact ⟨_, rfl, m, M, 400, rfl, hMA, g, by omega, hT, fin⟩
theorem ok_ruleT (T : Txt K mg A) : FnOk P w K mg base CX0 1 A.a_law_rule A.d_law_rule ["machine", "symbol", "kids"] (spRuleT K) := by
  refine T.F_law_rule.ok sc_law_rule (fun vs H Q E h => ?_) (fun cdv Ar outer s H vs Q E hr h => ?_)
  · obtain ⟨_, _, _, _, _, rfl, _⟩ := h
    rfl
  · obtain ⟨m, kd, M, s, ks, rfl, ⟨r, ru, ou, qs, hM⟩, g, s0, s1, hS, hk, hl, fin⟩ := h
    refine ⟨_, (pss_cons (ps_set (i := 3) sc_law_rule.nd rfl (Or.inl rfl) pe_int)
      (pss_cons (ps_for PassesOwn.never rfl (pi_tup (pv 2)) (pg_name (i := 4) sc_law_rule.nd rfl (Or.inl rfl))
        (pss_one (ps_set (i := 3) sc_law_rule.nd rfl (Or.inl rfl) (pe_op op_add (pe_op op_mul (pv 3) (pe_callB call_len_seq (by rfl) T.n_len PySem.boot_len (pa_cons (pe_ix (r := rIx K) ix_seq (pv 0) pe_int (fun _ _ => rfl)) pa_nil))) (pv 4)))))
      (pss_one (ps_ret (pe_ix (r := rIx K) ix_seq (pe_ix (r := rIx K) ix_seq (pe_ix (r := rIx K) ix_seq (pv 0) pe_int (fun _ _ => rfl)) (pv 1) (fun _ _ => rfl)) (pv 3) (fun _ _ => rfl)))))), ?_⟩
    have n6 := g.n6
    have lk : (ks.map V.int).length = ks.length := List.length_map ..
    refine ⟨_, rfl, kd, rfl, ⟨_, hS⟩, for_tup (K := K) (a := kd) (xs := ks.map V.int) (fun i σ H' => ∃ v4 : Option V, σ = [some (.ref m), some (.int s), some (.ref kd), some (.int (plc M.n (ks.take i))), v4] ∧ H' = H)
      ⟨none, rfl, rfl⟩ (fun i σ H' _ ⟨_, _, e⟩ => by rw [e]; exact hS) ?_ ?_⟩
    · rintro i y σ H' hi ⟨v4, rfl, rfl⟩
      obtain ⟨z, hz, rfl⟩ := ofV hi
      refine ⟨_, rfl, _, rfl, .inr (.inl ⟨m, _, 3, _, rfl, rfl, SqT.of hM.top, rfl, ?_⟩)⟩
      refine ⟨ou, _, rfl, .inr (SqT.of hM.ou), ?_⟩
      rw [show (M.outs.map V.int).length = M.outs.length from List.length_map ..]
      refine ⟨_, _, rfl, rfl, .inr ⟨by omega, by omega⟩, _, rfl, _, _, rfl, rfl, ?_⟩
      refine ⟨some (.int z), ?_, rfl⟩
      rw [take_more hz, plc_snoc]
      rfl
    · rintro σ H' ⟨v4, rfl, rfl⟩
      rw [lk, List.take_length]
      obtain ⟨er, p0, ee, _, _⟩ := entry_at g s0 s1 hk hl
      have ll := hM.len
      have rl := g.rl
      have eq_ : qs[s.toNat]? = some qs[s.toNat] := List.getElem?_eq_getElem (by omega)
      have hrow := hM.row _ _ _ eq_ er
      refine ⟨_, rfl, .inr (.inl ⟨m, _, 2, _, rfl, rfl, SqT.of hM.top, rfl, ?_⟩)⟩
      refine ⟨_, rfl, .inr (.inl ⟨ru, _, s, _, rfl, rfl, SqT.of hM.ru, atI_get? s0 eq_, ?_⟩)⟩
      exact ⟨_, rfl, .inr (.inl ⟨_, _, _, _, rfl, rfl, SqT.of hrow, atI_get? p0 ee, fin⟩)⟩
end
end K63

set_option Elab.async false
set_option linter.all false
set_option maxRecDepth 100000
set_option maxHeartbeats 4000000
/-! sorted(range(..), key=lambda x: ..) -/
namespace Mz
open PySem PySem.Spec PyProof.Rows L2 LamX PySem.W PySem.Calls
section
variable {X : Cx} {k : Nat} {f c' : Addr} {q : Str} {params : Arguments} {body : Expr} {scope : Scope} {x : Str} {tb : TE}
/-- the keys are made, one after another; then the list's own object gets the items in order -/
theorem keyL_rest {A : Around} {pins : List (Addr × Obj)} {σ : L2.St} {H0 : Hp} {s : Shared} {Q : VK} {a kS : Addr} {e1 : Nat} {vs : List Value} {xs : List V} {W : Nat → List V → Hp → Prop} {P : PySem.Fin → Shared → Prop} {EE : Value → Shared → Prop}
    (hq : q = X.env.qual ++ "<lambda>") (L : LamF X.env.scope scope x) (hr : Room (k + 1) A) (hA : A.frames = some X.stack) (wf : L2.St → L2.St) (hwl : ∀ σ, (wf σ).length = σ.length) (hw : ∀ (σ : L2.St) (i : Nat) (y : Str) (v : V), X.N[i]? = some y → (wf σ)[i]? = some (some v) → y ≠ x ∧ σ[i]? = some (some v))
    (hbind : ∀ (q : Str) (cl : List (Str × Addr)) (pm cv ctv u : Value), bindArgs (PySem.W.kla_fn "<lambda>" q params body scope cl pm cv ctv) ⟨[u], []⟩ = pure [(x, u)])
    (hbody : ∀ (s : Shared) (H : Hp) (f c' : Addr), Room k (A.deeper (lamEnv X scope s.heap.objs.size f c')) → PE (lamCx1 X A scope s H f c' (X.N ++ [x])) body tb)
    (wk : ∀ i ks H, W i ks H → H f = some (LamO f q params body scope (cloFrom X.env.cells scope.names []) c') ∧ H c' = some (CodeO c' q)) (I : Inv X pins σ H0 s) (nk : s.heap.get? kS = some (seqObj "list" #[] 0)) (na : s.heap.get? a = some (seqObj "list" #[] e1)) (hka : kS ≠ a)
    (fk : FpOk X pins H0 kS) (fa : FpOk X pins H0 a) (rv : Vals xs vs) (hZ : vs.length ≤ sizeLine) (w0 : W 0 [] H0)
    (turn : ∀ (i : Nat) (x : V) (ks : List V) (H : Hp), xs[i]? = some x → W i ks H → tb (wf σ ++ [some x]) H (fun key H' => W (i + 1) (ks ++ [key]) H')) (fin : SortEnd X.K xs W Q)
    (hP : ∀ s', EP X pins σ Q (.ref a) s' → P (.done (.ret .none)) s') : wpAny (model X.prog X.w) A (ksk_rest a (.ref f) false vs.toArray e1 (.ref kS)) P EE s := by
  have hlen : xs.length = vs.length := rv.length
  have pinned : ∀ {H : Hp} {h : Heap} {g : Nat} {s' : Shared} {kA : Array Value} {e : Nat}, Inv X pins σ H s' → s'.heap.get? kS = some (seqObj "list" kA e) → s'.heap.get? a = some (seqObj "list" #[] e1) → H kS = none → H a = none → Inv X (pins ++ [(kS, seqObj "list" kA e), (a, seqObj "list" #[] e1)]) σ H s' := fun J h1 h2 h3 h4 =>
    J.pins_of fun p hp => by
      rcases List.mem_append.mp hp with z | z
      · exact J.pin p (List.mem_append_right _ z)
      · rcases List.mem_cons.mp z with z | z
        · subst z
          exact ⟨h1, h3, fk.2.1, fk.2.2.1, fun v z => by cases z⟩
        · rcases List.mem_cons.mp z with z | z
          · subst z
            exact ⟨h2, h4, fa.2.1, fa.2.2.1, fun v z => by cases z⟩
          · cases z
  unfold ksk_rest
  refine wpAny_bind (wpAny_rule ?_)
  first
    | rw [List.forIn_toArray]
    | (rw [← Array.forIn_toList]; simp only [List.toList_toArray])
    | rw [← Array.forIn_toList]
  refine wpAny_bind (ksk_fold (fun i s' => ∃ H kA e ks, Inv X (pins ++ [(kS, seqObj "list" kA e), (a, seqObj "list" #[] e1)]) σ H s' ∧ Vals ks kA.toList ∧ ks.length = i ∧ W i ks H) vs 0 s
    ⟨H0, #[], 0, [], pinned (h := s.heap) (g := 0) I nk na fk.1 fa.1, .nil, rfl, w0⟩ ?step ?done)
  case step =>
    rintro j v s' hv ⟨H, kA, e, ks, J, rk, lk, wj⟩
    rw [Nat.zero_add] at wj lk ⊢
    have hj : j < vs.length := (List.getElem?_eq_some_iff.mp hv).1
    obtain ⟨x1, hx⟩ : ∃ x, xs[j]? = some x := ⟨_, List.getElem?_eq_getElem (by omega)⟩
    have rx : RelV x1 v := vals_at2 rv hx hv
    refine wpAny_bind (wpAny_attempt (wpAny_mono (lam_run1W (EE := fun _ _ => False) hq J L hr hA (wk _ _ _ wj).1 (wk _ _ _ wj).2 wf hwl hw rx hbind (fun hr' => hbody _ _ _ _ hr') (turn j x1 ks H hx wj)) (fun u s2 h2 => ?_) fun _ _ hF => hF.elim))
    obtain ⟨key, H2, J2, r2, w2⟩ := h2
    have pk := J2.pin (kS, seqObj "list" kA e) (List.mem_append_right _ (List.mem_append_right _ List.mem_cons_self))
    have pa := J2.pin (a, seqObj "list" #[] e1) (List.mem_append_right _ (List.mem_append_right _ (List.mem_cons_of_mem _ List.mem_cons_self)))
    have J3 := J2.unpinned
    have nk2 : s2.heap.get? kS = some (seqObj "list" kA e) := pk.1
    have na2 : s2.heap.get? a = some (seqObj "list" #[] e1) := pa.1
    have s1 := Heap.SameBut.update s2.heap kS (Obj.mapSeq (·.push u))
    obtain ⟨c2, hc2⟩ : ∃ c2, (s2.heap.update kS (Obj.mapSeq (·.push u))).get? kS = some (seqObj "list" (kA.push u) c2) := ⟨_, get?_update_seq nk2 (·.push u)⟩
    have hz : kA.size ≤ vs.length := by
      have h1 : ks.length = kA.toList.length := rk.length
      have h2 : kA.toList.length = kA.size := Array.length_toList
      rw [← h2, ← h1, lk]
      exact Nat.le_of_lt hj
    try dsimp only
    refine wpAny_bind (listUpdate_at nk2 rfl ?_ (Nat.le_trans hz hZ) (Nat.le_trans (Nat.le_of_eq (Array.size_push ..)) (Nat.succ_le_succ (Nat.le_trans hz hZ))))
    have J4 : Inv X pins σ H2 { s2 with heap := s2.heap.update kS (Obj.mapSeq (·.push u)) } := J3.turned (it := kS) (t' := s2.toks) (fun b o hb e => (s1.2 b hb).trans e) pk.2.1 fk.2.1 fk.2.2.2.1 fk.2.2.2.2.1 fk.2.2.2.2.2
    refine wpAny_pure ⟨rfl, H2, kA.push u, c2, ks ++ [key], pinned (h := s.heap) (g := 0) J4 hc2 ((s1.2 a hka.symm).trans na2) pk.2.1 pa.2.1, ?_, by rw [List.length_append, lk]; rfl, w2⟩
    rw [Array.toList_push]
    exact rk.append (.cons r2 .nil)
  case done =>
    rintro s' ⟨H, kA, e, ks, J, rk, lk, wj⟩
    rw [Nat.zero_add, ← hlen] at wj lk
    obtain ⟨kz, dk, hal, hsk, hd, q⟩ := fin ks H wj
    have lz : ks.length = kz.length := dpAll_len dk
    have pk := J.pin (kS, seqObj "list" kA e) (List.mem_append_right _ (List.mem_append_right _ List.mem_cons_self))
    have pa := J.pin (a, seqObj "list" #[] e1) (List.mem_append_right _ (List.mem_append_right _ (List.mem_cons_of_mem _ List.mem_cons_self)))
    have J3 := J.unpinned
    have nk2 : s'.heap.get? kS = some (seqObj "list" kA e) := pk.1
    have na2 : s'.heap.get? a = some (seqObj "list" #[] e1) := pa.1
    have nHk : H kS = none := pk.2.1
    have nHa : H a = none := pa.2.1
    obtain ⟨as, ra⟩ := Dp.readsAll J3 kz ks kA.toList dk rk
    have hk := readsAll_is ra
    have hsz : kA.size = vs.length := by
      have h1 := hk.length
      rw [Array.length_toList] at h1
      omega
    refine wpAny_bind (listItems_at nk2 rfl ?_)
    refine keyH_end (κ := dataKind s'.heap kz) (h₁ := hideAll s'.heap [kS]) (fun b o hb h => of_hideAll [kS] h) (hideAll_none [kS] (by simp)) nk2 na2 hka (SortsAt.data hk hal hsk fun d h => ?_) hsz hZ fun h3 tk3 c k3 n3 => hP _ ?_
    · have h1 := hd d h
      have h2 := hr.un
      omega
    · have ko : KeyedOut false kz vs (sortVals (dataKind s'.heap kz) false kA.toList vs) := ⟨s'.heap, kA.toList, hal, rfl, hk⟩
      have ev := keyedOut_each (R := fun v (x : V × PyData) => RelV x.1 v) (bs := xs.zip kz) Prod.snd (by rw [map_snd_zip (by omega)]; exact ko) (vals_zip rv (by omega))
      have vo : Vals (byKeys xs kz) (sortVals (dataKind s'.heap kz) false kA.toList vs) := each_vals ev
      have hlo : (byKeys xs kz).length ≤ sizeLine := by
        unfold byKeys
        rw [List.length_map, List.length_mergeSort, List.length_zip]
        omega
      have kp : ∀ b o, b ≠ kS → b ≠ a → s'.heap.get? b = some o → h3.get? b = some o := fun b o h1 h2 h => k3 b o h2 (hideAll_get [kS] h (by simpa using h1))
      have nb : ∀ b u, H b = some u → b ≠ a := fun b u h z => by
        rw [z, nHa] at h
        cases h
      have nbk : ∀ b u, H b = some u → b ≠ kS := fun b u h z => by
        rw [z, nHk] at h
        cases h
      have un : Un (frs X.stack) [kS, a] H (upd H a (.lst (byKeys xs kz))) s'.heap h3 := by
        refine ⟨fun b o h1 h2 h3 h4 => kp b o (fun z => h4 (by simp [z])) (fun z => h4 (by simp [z])) h1, fun b o h1 h2 h3 h4 => ⟨o.slots, kp b o (fun z => h4 (by simp [z])) (fun z => h4 (by simp [z])) h1⟩,
          fun b o h1 h2 h4 => by rw [upd_ne (fun z => h4 (by simp [z]))]; exact h2, fun b o h1 h4 => ⟨o, kp b o (fun z => h4 (by simp [z])) (fun z => h4 (by simp [z])) h1⟩,
          fun b ys h => by rw [upd_ne (nb b _ h)]; exact h, fun b o u h => by rw [upd_ne (nb b _ h)]; exact h, fun b ps h => ⟨#[], by rw [upd_ne (nb b _ h), h]; simp⟩⟩
      have hok : HOk X.prog X.w (upd H a (.lst (byKeys xs kz))) h3 := by
        intro b u h
        by_cases hb : b = a
        · rw [hb, upd_same] at h
          cases h
          rw [hb]
          exact ⟨hlo, _, c, vo, n3⟩
        · rw [upd_ne hb] at h
          refine (J3.hok b u h).stay (fun d v hd' h' => kp d v ?_ ?_ h') (fun d h' => ?_) fun d ys h' => ?_
          · rcases hd' with z | z
            · rw [z]; exact nbk b u h
            · exact nbk d _ z
          · rcases hd' with z | z
            · rw [z]; exact hb
            · exact nb d _ z
          · rw [upd_ne (nb d _ h')]; exact h'
          · rw [upd_ne (nb d _ h')]; exact h'
      have J5 : Inv X pins σ (upd H a (.lst (byKeys xs kz))) { s' with heap := h3, toks := tk3 } := J3.call (g' := s'.gens) (d' := s'.drawn) (ch := [kS, a]) un hok J3.bare fun b hb => by
        rcases List.mem_cons.mp hb with z | z
        · subst z
          exact ⟨fk.2.2.2.1, fk.2.1, fk.2.2.2.2.1, fk.2.2.2.2.2⟩
        · have z : b = a := by simpa using z
          subst z
          exact ⟨fa.2.2.2.1, fa.2.1, fa.2.2.2.2.1, fa.2.2.2.2.2⟩
      exact ⟨.ref a, _, J5, rfl, q a nHa⟩
/-- sorted(l, key=f), l collected to xs -/
theorem sortl_run {pins : List (Addr × Obj)} {σ : L2.St} {H : Hp} {s : Shared} {Q : VK} {l : Value} {xs : List V} {W : Nat → List V → Hp → Prop}
    (hq : q = X.env.qual ++ "<lambda>") (L : LamF X.env.scope scope x) (hr : Room (k + 3) X.A) (wf : L2.St → L2.St) (hwl : ∀ σ, (wf σ).length = σ.length) (hw : ∀ (σ : L2.St) (i : Nat) (y : Str) (v : V), X.N[i]? = some y → (wf σ)[i]? = some (some v) → y ≠ x ∧ σ[i]? = some (some v))
    (hbind : ∀ (q : Str) (cl : List (Str × Addr)) (pm cv ctv u : Value), bindArgs (PySem.W.kla_fn "<lambda>" q params body scope cl pm cv ctv) ⟨[u], []⟩ = pure [(x, u)])
    (hbody : ∀ (s : Shared) (H : Hp) (f c' : Addr), Room k (X.A.in1.in1.deeper (lamEnv X scope s.heap.objs.size f c')) → PE (lamCx1 X X.A.in1.in1 scope s H f c' (X.N ++ [x])) body tb)
    (wk : ∀ i ks H, W i ks H → H f = some (LamO f q params body scope (cloFrom X.env.cells scope.names []) c') ∧ H c' = some (CodeO c' q)) (I : Inv X pins σ H s)
    (col : ∀ (R : List Value → Shared → Prop) (EE : Value → Shared → Prop), (∀ h' tk vs, Vals xs vs → vs.length ≤ sizeLine → (∀ b o, s.heap.get? b = some o → h'.get? b = some o) → R vs { s with heap := h', toks := tk }) → wpAny (model X.prog X.w) X.A.in1 (collect l) R EE s) (w0 : W 0 [] H)
    (turn : ∀ (i : Nat) (x : V) (ks : List V) (H : Hp), xs[i]? = some x → W i ks H → tb (wf σ ++ [some x]) H (fun key H' => W (i + 1) (ks ++ [key]) H')) (fin : SortEnd X.K xs W Q) :
    wpAny (model X.prog X.w) X.A (call (.builtin "sorted") [l] [(Str.ofString "key", .ref f)]) (EP X pins σ Q) X.xe s := by
  refine call_function_entry_kw kind_sorted plain_sorted entry_sorted (ksk_s1 _ _) ?_
  unfold Builtin.«sorted»
  refine wpAny_bind (m := checkCount "sorted" 1 1 _) (wpAny_pure ?_)
  refine wpAny_bind (col _ _ fun h1 tk1 vs rv hZ kp1 => ?_)
  have I1 : Inv X pins σ H { s with heap := h1, toks := tk1 } := I.kept kp1
  refine wpAny_bind (wpAny_newList ?_ hZ)
  have I2 : Inv X pins σ H { s with heap := h1.push (seqObj "list" vs.toArray 0), toks := tk1 } := I1.kept (t' := tk1) fun b u e => Heap.get?_push_of_some _ e
  have ho : (h1.push (seqObj "list" vs.toArray 0)).get? h1.objs.size = some (seqObj "list" vs.toArray 0) := Heap.get?_push_size _ rfl
  have ha : h1.objs.size < (h1.push (seqObj "list" vs.toArray 0)).objs.size := Heap.lt_size ho
  refine wpAny_bind (wpAny_holding (wpAny_call_entry_kw slot_list_sort ⟨_, ho, rfl⟩ entry_list_sort ?_ (ksk_l1 _ _)))
  rw [ksk_t1]
  obtain ⟨e1, ho1⟩ : ∃ e1, ((h1.push (seqObj "list" vs.toArray 0)).update h1.objs.size (Obj.mapSeq fun _ => (#[] : Array Value))).get? h1.objs.size = some (seqObj "list" #[] e1) := ⟨_, get?_update_seq ho fun _ => #[]⟩
  have hkS : (((h1.push (seqObj "list" vs.toArray 0)).update h1.objs.size (Obj.mapSeq fun _ => (#[] : Array Value))).push (seqObj "tuple" vs.toArray 0)).objs.size = h1.objs.size + 1 + 1 := by rw [size_push', Heap.size_update, size_push']
  unfold ksk_tree
  refine wpAny_bind (listItems_at ho rfl ?_)
  refine wpAny_bind (listUpdate_at ho rfl ?_ (by rw [List.size_toArray]; exact hZ) (Nat.zero_le _))
  refine wpAny_bind (seqEpoch_at ho1 rfl ?_)
  refine wpAny_bind (wpAny_newTuple ?_ (by show vs.length ≤ _; exact hZ))
  refine wpAny_bind (wpAny_newList ?_ (Nat.zero_le _))
  refine wpAny_holding ?_
  have kp : ∀ b o, h1.get? b = some o → ((((h1.push (seqObj "list" vs.toArray 0)).update h1.objs.size (Obj.mapSeq fun _ => (#[] : Array Value))).push (seqObj "tuple" vs.toArray 0)).push (seqObj "list" #[] 0)).get? b = some o := fun b o e =>
    Heap.get?_push_of_some _ (Heap.get?_push_of_some _ (((Heap.SameBut.update _ h1.objs.size (Obj.mapSeq fun _ => (#[] : Array Value))).2 b (Nat.ne_of_lt (Heap.lt_size e))).trans (Heap.get?_push_of_some _ e)))
  have I3 : Inv X pins σ H { s with heap := (((h1.push (seqObj "list" vs.toArray 0)).update h1.objs.size (Obj.mapSeq fun _ => (#[] : Array Value))).push (seqObj "tuple" vs.toArray 0)).push (seqObj "list" #[] 0), toks := tk1 } := I1.kept (t' := tk1) kp
  have hr2 : Room (k + 1) X.A.in1.in1 := Room.in1 (Room.in1 hr)
  have hne : (((h1.push (seqObj "list" vs.toArray 0)).update h1.objs.size (Obj.mapSeq fun _ => (#[] : Array Value))).push (seqObj "tuple" vs.toArray 0)).objs.size ≠ h1.objs.size := by rw [hkS]; omega
  refine keyL_rest (A := X.A.in1.in1) hq L hr2 I.ok.frames wf hwl hw hbind hbody wk I3 (Heap.get?_push_size _ rfl) (Heap.get?_push_of_some _ (Heap.get?_push_of_some _ ho1)) hne
    (I1.fpOk (by rw [hkS]; show h1.objs.size ≤ _; omega) (I1.hok.fresh (by rw [hkS]; show h1.objs.size ≤ _; omega))) (I1.fpOk (Nat.le_refl _) (I1.hok.fresh (Nat.le_refl _))) rv hZ w0 turn fin fun s' hq => ⟨.none, rfl, ?_⟩
  exact wpAny_pure ⟨_, rfl, hq⟩

/-- what is asked once the lambda stands -/
def SrtR (K : PySem.W.Frag) (P : Addr) (q : Str) (params : Arguments) (body : Expr) (scope : Scope) (cl : List (Str × Addr)) (tb : TE) (wf : L2.St → L2.St) (a b : Int) (fv : V) (σ : L2.St) (H2 : Hp) (Q : VK) : Prop :=
  ∃ (f c' : Addr), fv = .ref f ∧ H2 f = some (LamO f q params body scope cl c') ∧ H2 c' = some (CodeO c' q) ∧ (∃ ps, H2 P = some (.tbl ps)) ∧ RgOk a b ∧
  ∃ W : Nat → List V → Hp → Prop, W 0 [] H2 ∧ (∀ i ks H, W i ks H → Grown P H2 H) ∧
    (∀ i x ks H, (rgV a b)[i]? = some x → W i ks H → tb (wf σ ++ [some x]) H fun key H' => W (i + 1) (ks ++ [key]) H') ∧ SortEnd K (rgV a b) W Q
def tSrtL (K : PySem.W.Frag) (P : Addr) (q : Str) (params : Arguments) (body : Expr) (scope : Scope) (cl : List (Str × Addr)) (te : L2.St → Hp → (Int → Int → Hp → Prop) → Prop) (tb : TE) (wf : L2.St → L2.St) : TE := fun σ H Q => te σ H fun a b H1 => tLamE P q params body scope cl σ H1 fun fv H2 => SrtR K P q params body scope cl tb wf a b fv σ H2 Q
end
section
variable {X : Cx}
theorem pe_sortLam {P c : Addr} {q : Str} {tb : TE} {te : L2.St → Hp → (Int → Int → Hp → Prop) → Prop} {rexpr body : Expr} {params : Arguments} {scope : Scope} {p pos lpos kpos : Pos} {x : Str} {k : Nat} (hc : X.calm = true) (hr : Room (k + 3) X.A) (hg : Gl X "sorted") (hm : X.mg "sorted" = none) (hv : bootBuiltins "sorted" = some (.builtin "sorted")) (TB : TabB X.base X.mg c P) (hcode : X.env.code = .ref c)
    (hq : q = X.env.qual ++ "<lambda>") (L : LamF X.env.scope scope x) (hd : PRg X rexpr te) (hdef : defaultsOf params X.env = ([], [])) (wf : L2.St → L2.St) (hwl : ∀ σ, (wf σ).length = σ.length) (hw : ∀ (σ : L2.St) (i : Nat) (y : Str) (v : V), X.N[i]? = some y → (wf σ)[i]? = some (some v) → y ≠ x ∧ σ[i]? = some (some v))
    (hbind : ∀ (q : Str) (cl : List (Str × Addr)) (pm cv ctv u : Value), bindArgs (PySem.W.kla_fn "<lambda>" q params body scope cl pm cv ctv) ⟨[u], []⟩ = pure [(x, u)])
    (hbody : ∀ (s : Shared) (H : Hp) (f c' : Addr), Room k (X.A.in1.in1.deeper (lamEnv X scope s.heap.objs.size f c')) → PE (lamCx1 X X.A.in1.in1 scope s H f c' (X.N ++ [x])) body tb)
    (na : starEach [rexpr] X.env = (false, eval rexpr X.env) :: starEach [] X.env := by rfl)
    (he : backTo pos (starEach [rexpr] X.env) = (false, eval rexpr X.env) :: backTo pos (starEach [] X.env) := by rfl) (hpl : (backTo pos (starEach [rexpr] X.env)).any (·.1) = false := by rfl)
    (hall : (backToKw pos (keywordEach [⟨some ("key" : Str), .Lambda params body scope lpos, kpos⟩] X.env)).all (·.1.isSome) = true := by rfl) (hnone : (backToKw pos (keywordEach [⟨some ("key" : Str), .Lambda params body scope lpos, kpos⟩] X.env)).any (·.1.isNone) = false := by rfl) (hks : (backToKw pos (keywordEach [⟨some ("key" : Str), .Lambda params body scope lpos, kpos⟩] X.env)).filterMap (·.1) = [Str.ofString "key"] := by rfl) :
    PE X (.Call (.Name "sorted" p) [rexpr] [⟨some ("key" : Str), .Lambda params body scope lpos, kpos⟩] pos) (tSrtL X.K P q params body scope (cloFrom X.env.cells scope.names []) te tb wf) := by
  have PL : PE X (.Lambda params body scope lpos) (tLamE P q params body scope (cloFrom X.env.cells scope.names [])) := pe_lamE TB hcode hq hdef L
  refine ⟨fun pins s σ H Q I h => ?_⟩
  refine wpAny_Call_Name_kw (ld_blt I hg hm hv ?_)
  refine PyProof.Rows.callWith_kw ?_ he hpl hall hnone
  rw [na]
  show wpAny _ _ (spliced ((false, eval rexpr X.env) :: backTo pos (starEach [] X.env))) _ _ s
  refine Calls.spliced_cons (thn (hd pins s σ H _ I h) fun xv s1 ⟨r, a, b, t, u, v, H1, ex, hrg, I1, hT, q1⟩ => Calls.spliced_nil ?_)
  subst ex
  have rP : r ≠ P := fun z => by
    obtain ⟨ps, hP, _, _⟩ := hT
    have hP' : s1.heap.get? P = some { cls := .none, data := .fields ps } := I1.hok P _ hP
    rw [← z, show s1.heap.get? r = _ from hrg] at hP'
    cases hP'
  show wpAny _ _ (evalAll ((do let v ← eval (.Lambda params body scope lpos) X.env; standAt pos; pure v) :: [])) _ _ s1
  refine wpAny_evalAll_cons (wpAny_bind (lam_make4 I1 TB hcode hq hT hdef (L.has I1.ok) fun f c' H2 s2 I2 g nn T2 f0 f1 c1 hk => wpAny_bind (wpAny_standAt (wpAny_pure ?_))))
  refine wpAny_evalAll_nil ?_
  rw [hks]
  obtain ⟨f', c'', ef, hf, hc1, _, ok, W, w0, wg, turn, fin⟩ := q1 f c' H2 g nn T2 f0 f1 c1
  cases ef
  obtain ⟨b1, b2, b3, b4, b5⟩ := ok
  have hPf : ∀ {b : Addr} {u : HO}, H2 b = some u → (∀ z, u ≠ .tbl z) → b ≠ P := fun {b u} e n z => by
    obtain ⟨ps, hP, _, _⟩ := T2
    rw [z, hP] at e
    exact n _ (Option.some.inj e).symm
  have hr2 : IsRange s2.heap r a b 1 t u v := hk r _ rP hrg
  have rl : (rgV a b).length ≤ sizeLine := by rw [rgV_length, sizeLine_eq]; omega
  show wpAny _ _ (call (.builtin "sorted") [.ref r] [(Str.ofString "key", .ref f)]) _ _ s2
  have KfW : ∀ i ks H, W i ks H → H f = some (LamO f q params body scope (cloFrom X.env.cells scope.names []) c'') ∧ H c'' = some (CodeO c'' q) := fun i ks H w => ⟨wg _ _ _ w _ _ hf (hPf hf lamO_ne), wg _ _ _ w _ _ hc1 (hPf hc1 codeO_ne)⟩
  exact sortl_run hq L hr wf hwl hw hbind hbody KfW I2 (fun R EE hR => collect_range (n := (b - a).toNat) (I2.ok.hd hc) hr2 (small_one b1 b2 b3 b4) (rangeSize_nat a b) b5 fun h' tk acc kp hi => hR h' tk _ (vals_rg hi) (by rw [← (vals_rg hi).length]; exact rl) kp) w0 turn fin
end
end Mz
namespace Mz
open PySem PySem.Spec PyProof.Rows L2
theorem wfOk {N : List Str} {x : Str} {k : Nat} (hk : ∀ i, i < N.length → i ≠ k → N[i]? ≠ some x) (σ : L2.St) (i : Nat) (y : Str) (v : V) (h1 : N[i]? = some y) (h2 : (σ.set k none)[i]? = some (some v)) : y ≠ x ∧ σ[i]? = some (some v) := by
  by_cases c : i = k
  · subst c
    rw [List.getElem?_set] at h2
    rw [if_pos rfl] at h2
    split at h2
    · cases h2
    · cases h2
  · rw [List.getElem?_set_ne (fun z => c z.symm)] at h2
    exact ⟨fun z => hk i (List.getElem?_eq_some_iff.1 h1).1 c (by rw [h1, z]), h2⟩
end Mz

set_option Elab.async false
set_option linter.all false
set_option maxRecDepth 100000
set_option maxHeartbeats 4000000
namespace K63
open PySem PySem.Spec PyProof.Rows L2 Mz
/-! ### states that some tree has; machines made of states -/
def outO (M : TM) (p : Int) : Int := M.outs.getD p.toNat 0
def Rg (M : TM) (p : Int) : Prop := 0 ≤ p ∧ p < M.n
structure KR (M : TM) (D : Int → Prop) (s : Nat) (ks : List Int) : Prop where
  lt : s < M.rs.length
  len : ks.length = (M.rank (s : Int)).toNat
  dom : ∀ k ∈ ks, D k
inductive Reach (M : TM) : Int → Prop where
  | mk (s : Nat) (ks : List Int) (hs : s < M.rs.length) (hl : ks.length = (M.rank (s : Int)).toNat) (h : ∀ k ∈ ks, Reach M k) : Reach M (M.to s ks)
theorem KR.to_ {M : TM} (g : GoodT M) {s : Nat} {ks : List Int} (h : KR M (Rg M) s ks) : Rg M (M.to s ks) := by
  obtain ⟨_, _, _, t0, t1⟩ := entry_at g (s := (s : Int)) (by omega) (by have := h.lt; omega) h.dom h.len
  exact ⟨t0, t1⟩
theorem Reach.rg {M : TM} (g : GoodT M) {p : Int} (h : Reach M p) : Rg M p := by
  induction h with
  | mk s ks hs hl _ ih => exact KR.to_ g ⟨hs, hl, ih⟩
theorem rank_at {M : TM} {s : Nat} (hs : s < M.rs.length) : M.rs[s]? = some (M.rank (s : Int)) := by
  show _ = some (M.rs.getD (s : Int).toNat 0)
  rw [Int.toNat_natCast, List.getD_eq_getElem?_getD, List.getElem?_eq_getElem hs]
  rfl
theorem rank_rg {M : TM} (g : GoodT M) {s : Nat} (hs : s < M.rs.length) : 0 ≤ M.rank (s : Int) ∧ M.rank (s : Int) < 3 := by
  obtain ⟨_, _, rb, _⟩ := ranks_iff.mp g.rk
  exact rb _ (List.mem_of_getElem? (rank_at hs))
/-- a leaf is there -/
theorem leaf_at {M : TM} (g : GoodT M) : ∃ s : Nat, s < M.rs.length ∧ M.rank (s : Int) = 0 := by
  obtain ⟨_, _, _, z⟩ := ranks_iff.mp g.rk
  obtain ⟨s, hs⟩ := List.mem_iff_getElem?.1 z
  obtain ⟨h1, h2⟩ := List.getElem?_eq_some_iff.1 hs
  refine ⟨s, h1, ?_⟩
  have := rank_at h1
  rw [hs] at this
  exact (Option.some.inj this).symm
/-- from machine to machine -/
structure Hom (M M' : TM) (h : Int → Int) : Prop where
  rs : M'.rs = M.rs
  os : M'.os = M.os
  dom : ∀ p, Reach M p → Rg M' (h p)
  out : ∀ p, Reach M p → outO M' (h p) = outO M p
  to : ∀ s ks, KR M (Reach M) s ks → M'.to s (ks.map h) = h (M.to s ks)
theorem Hom.rank {M M' : TM} {h : Int → Int} (H : Hom M M' h) (s : Int) : M'.rank s = M.rank s := by
  unfold TM.rank
  rw [H.rs]
theorem Hom.reach {M M' : TM} {h : Int → Int} (H : Hom M M' h) {p : Int} (r : Reach M p) : Reach M' (h p) := by
  induction r with
  | mk s ks hs hl hk ih =>
    rw [← H.to s ks ⟨hs, hl, hk⟩]
    refine .mk s _ (by rw [H.rs]; exact hs) (by rw [List.length_map, H.rank]; exact hl) fun k hk' => ?_
    obtain ⟨z, hz, rfl⟩ := List.mem_map.1 hk'
    exact ih z hz
theorem Hom.comp {M M' M2 : TM} {h k : Int → Int} (H : Hom M M' h) (K : Hom M' M2 k) : Hom M M2 (fun p => k (h p)) := by
  refine ⟨K.rs.trans H.rs, K.os.trans H.os, fun p r => K.dom _ (H.reach r), fun p r => (K.out _ (H.reach r)).trans (H.out p r), fun s ks hk => ?_⟩
  have e : ks.map (fun p => k (h p)) = (ks.map h).map k := by rw [List.map_map]; rfl
  rw [e, K.to s (ks.map h) ⟨by rw [H.rs]; exact hk.lt, by rw [List.length_map, H.rank]; exact hk.len, fun z hz => ?_⟩, H.to s ks hk]
  obtain ⟨y, hy, rfl⟩ := List.mem_map.1 hz
  exact H.reach (hk.dom y hy)
/-- from each state of the image some state comes -/
theorem Hom.onto {M M' : TM} {h : Int → Int} (H : Hom M M' h) {q : Int} (r : Reach M' q) : ∃ p, Reach M p ∧ h p = q := by
  induction r with
  | mk s ks hs hl hk ih =>
    have : ∃ js : List Int, js.length = ks.length ∧ (∀ j ∈ js, Reach M j) ∧ js.map h = ks := by
      clear hl hk
      induction ks with
      | nil => exact ⟨[], rfl, (fun j hj => by cases hj), rfl⟩
      | cons k ks ih2 =>
        obtain ⟨js, l, r, e⟩ := ih2 fun z hz => ih z (List.mem_cons_of_mem _ hz)
        obtain ⟨p, rp, ep⟩ := ih k List.mem_cons_self
        refine ⟨p :: js, by rw [List.length_cons, List.length_cons, l], fun j hj => ?_, by rw [List.map_cons, e, ep]⟩
        rcases List.mem_cons.1 hj with z | z
        · rw [z]; exact rp
        · exact r j z
    obtain ⟨js, l, r, rfl⟩ := this
    have lt : s < M.rs.length := by rw [← H.rs]; exact hs
    have ln : js.length = (M.rank (s : Int)).toNat := by rw [l, hl, H.rank]
    exact ⟨_, .mk s js lt ln r, (H.to s js ⟨lt, ln, r⟩).symm⟩
/-- the machine of some states, with new numbers -/
def keptM (M : TM) (ss : List Int) (num : Int → Int) : TM := ⟨M.rs, M.os, (List.range M.rs.length).map fun (s : Nat) => (kidsL (M.rank (s : Int)).toNat ss).map fun ks => num (M.to s ks), ss.map (outO M)⟩
theorem flat_at {α β : Type} (f : α → List β) (m : Nat) : ∀ (xs : List α), (∀ x ∈ xs, (f x).length = m) → ∀ i j (x : α), j < m → xs[i]? = some x → (xs.flatMap f)[i * m + j]? = (f x)[j]?
  | [], _, i, j, x, _, h => by simp at h
  | y :: xs, hm, 0, j, x, hj, h => by
    cases h
    rw [List.flatMap_cons, Nat.zero_mul, Nat.zero_add, List.getElem?_append_left (by rw [hm _ List.mem_cons_self]; exact hj)]
  | y :: xs, hm, i + 1, j, x, hj, h => by
    have l := hm y List.mem_cons_self
    rw [List.flatMap_cons, List.getElem?_append_right (by rw [l, Nat.succ_mul]; omega), l, show (i + 1) * m + j - m = i * m + j by rw [Nat.succ_mul]; omega]
    exact flat_at f m xs (fun z hz => hm z (List.mem_cons_of_mem _ hz)) i j x hj (by simpa using h)
theorem plc_nat {n : Nat} {js : List Int} {j : Int} (h0 : 0 ≤ plc (n : Int) js) (hj : 0 ≤ j) : (plc (n : Int) (js ++ [j])).toNat = (plc (n : Int) js).toNat * n + j.toNat := by
  rw [plc_snoc]
  have e : plc (n : Int) js * (n : Int) = (((plc (n : Int) js).toNat * n : Nat) : Int) := by
    rw [Int.natCast_mul, Int.toNat_of_nonneg h0]
  omega
/-- the entry for places is the one for the states there -/
theorem kids_at (ss : List Int) (n0 : 0 < ss.length) : ∀ (r : Nat) (js : List Int), js.length = r → (∀ j ∈ js, 0 ≤ j ∧ j < (ss.length : Int)) → (kidsL r ss)[(plc (ss.length : Int) js).toNat]? = some (js.map fun j => ss.getD j.toNat 0)
  | 0, js, hl, _ => by
    rw [List.length_eq_zero_iff.1 hl]
    rfl
  | r + 1, js, hl, hb => by
    have hne : js ≠ [] := fun z => by rw [z] at hl; cases hl
    have e := (List.dropLast_concat_getLast hne).symm
    generalize hd : js.dropLast = fs at e
    generalize hg : js.getLast hne = j at e
    subst e
    have lf : fs.length = r := by
      rw [List.length_append] at hl
      exact Nat.succ.inj hl
    have hf : ∀ k ∈ fs, 0 ≤ k ∧ k < (ss.length : Int) := fun k hk => hb k (List.mem_append_left _ hk)
    obtain ⟨j0, j1⟩ := hb j (List.mem_append_right _ (List.mem_singleton.2 rfl))
    have ih := kids_at ss n0 r fs lf hf
    obtain ⟨p0, _⟩ := plc_lt (n := (ss.length : Int)) (by omega) fs hf
    rw [plc_nat p0 j0]
    show ((kidsL r ss).flatMap fun few => ss.map fun s => few ++ [s])[_]? = _
    have jl : j.toNat < ss.length := by omega
    rw [flat_at (fun few => ss.map fun s => few ++ [s]) ss.length (kidsL r ss) (fun x _ => List.length_map ..) _ _ _ jl ih]
    rw [List.getElem?_map, List.getElem?_eq_getElem jl, List.map_append]
    show some _ = some (_ ++ [ss.getD j.toNat 0])
    rw [List.getD_eq_getElem?_getD, List.getElem?_eq_getElem jl]
    rfl
theorem kept_n {M : TM} {ss : List Int} {num : Int → Int} : (keptM M ss num).n = (ss.length : Int) := by
  show (((ss.map (outO M)).length : Nat) : Int) = _
  rw [List.length_map]
theorem kept_rank {M : TM} {ss : List Int} {num : Int → Int} (s : Int) : (keptM M ss num).rank s = M.rank s := rfl
theorem kept_rule {M : TM} {ss : List Int} {num : Int → Int} {s : Nat} (hs : s < M.rs.length) : (keptM M ss num).rule (s : Int) = (kidsL (M.rank (s : Int)).toNat ss).map fun ks => num (M.to s ks) := by
  show ((List.range M.rs.length).map _).getD (s : Int).toNat [] = _
  rw [Int.toNat_natCast, List.getD_eq_getElem?_getD, List.getElem?_map, List.getElem?_range hs]
  rfl
theorem kept_to {M : TM} {ss : List Int} {num : Int → Int} (n0 : 0 < ss.length) {s : Nat} {js : List Int} (hs : s < M.rs.length) (hl : js.length = (M.rank (s : Int)).toNat) (hb : ∀ j ∈ js, 0 ≤ j ∧ j < (ss.length : Int)) :
    (keptM M ss num).to s js = num (M.to s (js.map fun j => ss.getD j.toNat 0)) := by
  show ((keptM M ss num).rule (s : Int)).getD (plc (keptM M ss num).n js).toNat 0 = _
  rw [kept_rule hs, kept_n, List.getD_eq_getElem?_getD, List.getElem?_map, kids_at ss n0 _ js hl hb]
  rfl
theorem kids_len (ss : List Int) : ∀ r, (kidsL r ss).length = ss.length ^ r
  | 0 => rfl
  | r + 1 => by
    show ((kidsL r ss).flatMap fun few => ss.map fun s => few ++ [s]).length = _
    rw [List.length_flatMap]
    have e : ((kidsL r ss).map fun few => (ss.map fun s => few ++ [s]).length) = (kidsL r ss).map fun _ => ss.length := List.map_congr_left fun x _ => List.length_map ..
    rw [e, List.map_const', List.sum_replicate_nat, kids_len ss r, Nat.pow_succ]
theorem kept_good {M : TM} (g : GoodT M) {ss : List Int} {num : Int → Int} (n1 : 1 ≤ ss.length) (n6 : ss.length ≤ 6) (hr : ∀ p ∈ ss, Rg M p) (hn : ∀ s ks, KR M (· ∈ ss) s ks → 0 ≤ num (M.to s ks) ∧ num (M.to s ks) < (ss.length : Int)) : GoodT (keptM M ss num) := by
  have lo : (keptM M ss num).outs.length = ss.length := List.length_map ..
  refine ⟨g.rk, g.o1, g.o4, by rw [lo]; exact n1, by rw [lo]; exact n6, fun y hy => ?_, by show ((List.range M.rs.length).map _).length = _; rw [List.length_map, List.length_range]; rfl, fun i r w h1 h2 => ?_, fun w hw y hy => ?_⟩
  · obtain ⟨p, hp, rfl⟩ := List.mem_map.1 hy
    obtain ⟨p0, p1⟩ := hr p hp
    refine g.ob _ ?_
    show M.outs.getD p.toNat 0 ∈ M.outs
    have : p.toNat < M.outs.length := by have e : M.n = (M.outs.length : Int) := rfl; omega
    rw [List.getD_eq_getElem?_getD, List.getElem?_eq_getElem this]
    exact List.getElem_mem this
  · rw [lo]
    have h1 : M.rs[i]? = some r := h1
    have il := (List.getElem?_eq_some_iff.1 h1).1
    have h2 : ((List.range M.rs.length).map fun (s : Nat) => (kidsL (M.rank (s : Int)).toNat ss).map fun ks => num (M.to s ks))[i]? = some w := h2
    rw [List.getElem?_map, List.getElem?_range il] at h2
    rw [← Option.some.inj h2, List.length_map, kids_len]
    have := rank_at il
    rw [h1] at this
    rw [← Option.some.inj this]
  · rw [lo]
    obtain ⟨s, hs, rfl⟩ := List.mem_map.1 hw
    obtain ⟨ks, hk, rfl⟩ := List.mem_map.1 hy
    obtain ⟨l, m⟩ := (kidsL_mem _ _ _).1 hk
    exact hn s ks ⟨List.mem_range.1 hs, l, m⟩
end K63

set_option Elab.async false
set_option linter.all false
set_option maxRecDepth 100000
set_option maxHeartbeats 4000000
/-! walks over lists, range with two bounds and comprehensions while an error is handled -/
namespace Mz
open PySem PySem.Spec PyProof.Rows L2 L2H HotX
theorem next_list_end_hot {prog : Program} {w : World} {A : Around} {E : Value → Shared → Prop} {s : Shared} {it t x1 : Addr} {i : Nat} {items : Array Value} {Q : Option Value → Shared → Prop} (hot : HotAt A x1 s.heap)
    (hit : s.heap.IsListIter it t i) (ht : s.heap.IsList t items) (hx : items[i]? = none) (hQ : ∀ h', Heap.ExtBut it s.heap h' → Q none { s with heap := h' }) : wpAny (model prog w) A (pyNext (.ref it)) Q E s := by
  obtain ⟨o, ho, hc, hd⟩ := id hit
  obtain ⟨ol, hol, _, nl, hdl⟩ := ht
  obtain ⟨hh, o1, vs1, h1, d1, c1⟩ := hot
  have tT : s.TypeIs (.ref it) "list_iterator" := hit.typeIs
  unfold pyNext
  refine wpAny_bind (wpAny_attempt (wpAny_callSpecial?_slot (name := Str.ofString "__next__") tT slot_listiter_next (wpAny_call_entry slot_listiter_next tT entry_listiter_next ?_ (args_listiter_next _))))
  show wpAny _ _ (field (.ref it) 0 >>= fun v => _) _ _ s
  refine wpAny_bind (wpAny_field ho hd (x := .ref t) rfl ?_)
  show wpAny _ _ (ite ((Value.ref t == Value.none) = true) _ _) _ _ s
  rw [if_neg (fun z : (Value.ref t == Value.none) = true => Bool.false_ne_true z)]
  show wpAny _ _ (field (.ref it) 1 >>= fun v => _) _ _ s
  refine wpAny_bind (wpAny_field ho hd (x := .int i 0) rfl ?_)
  show wpAny _ _ (seqItems? (.ref t) >>= fun v => _) _ _ s
  refine wpAny_bind (wpAny_seqItems hol hdl ?_)
  simp only [Int.toNat_natCast, hx]
  have apart : x1 ≠ it := fun z => by
    rw [z, ho] at h1
    cases h1
    rw [hd] at d1
    injection d1 with d1
    rw [← d1] at c1
    cases c1
  refine wpAny_bind (wpAny_rule (wpAny_bind (wpAny_setField ho hd (by simp) ?_)))
  show wpAny _ _ ((newExc (.type "StopIteration") []) >>= fun v => _) _ _ _
  refine wpAny_bind ?_
  simp only [newExc, newTuple]
  refine wpAny_bind (wpAny_newObj_type ?_ (by size_fits))
  refine wpAny_bind (m := firstArgMember _ _) (wpAny_of_eq (a := Value.none) (by first | rfl | (simp only [firstArgMember] <;> rfl)) ?_)
  refine wpAny_newObj_type ?_ (by size_fits)
  have h1b : (s.heap.update it (Obj.mapFields (·.setIfInBounds 0 Value.none))).get? x1 = some o1 := by
    rw [Heap.get?_update_other _ _ (fun z => apart z.symm)]
    exact h1
  refine raiseNew_hot ⟨hh, o1, vs1, Heap.get?_push_of_some _ (Heap.get?_push_of_some _ h1b), d1, c1⟩ (Nat.ne_of_lt (Heap.lt_size (Heap.get?_push_of_some _ h1b)))
    (Heap.get?_push_size _ rfl) rfl (by first | (simp; done) | (simp; omega) | (simp only [Array.size_append]; simp; omega)) ?_
  refine wpAny_bind (wpAny_isInstance (T := "StopIteration") (b := true) ⟨_, (Heap.get?_update_self _ (Heap.get?_push_size _ rfl) rfl), rfl⟩ isSubtype_stop ?_)
  refine wpAny_pure (hQ _ fun b u nb e => ?_)
  have e1 : (s.heap.update it (Obj.mapFields (·.setIfInBounds 0 Value.none))).get? b = some u := by
    rw [Heap.get?_update_other _ _ (fun z => nb z.symm)]
    exact e
  rw [Heap.get?_update_other _ _ (fun z => Nat.lt_irrefl _ (show _ < _ by have := Heap.lt_size (Heap.get?_push_of_some { cls := Value.type "tuple", data := Data.seq #[] } e1); rw [← z] at this; exact this))]
  exact Heap.get?_push_of_some _ (Heap.get?_push_of_some _ e1)
theorem turn_listH {P : Program} {w : World} {K : PySem.W.Frag} {tg : Expr} (a it : Addr) : TurnH P w K tg (Itl K a) [it] it (fun i h => h.IsListIter it a i) where
  mem := List.mem_singleton.mpr rfl
  obj := fun i h ⟨o, e, c, d⟩ b hb => by
    rw [List.mem_singleton.mp hb]
    exact ⟨o, e, fun v z => by rw [d] at z; cases z⟩
  keep := fun i h h' st k => st.at fun o e => k it (List.mem_singleton.mpr rfl) o e
  item := by
    rintro X rfl rfl rfl hc i pins s σ H E I hf st ⟨xs, x, hq, hx⟩
    obtain ⟨its, rv, p, _⟩ := I.list hq
    obtain ⟨u, hu, ru⟩ := rv.get hx
    obtain ⟨f0, f1, f2, f3, f4, f5⟩ := hf it (List.mem_singleton.mpr rfl)
    have tp : s.heap.IsList a its.toArray := p.isList
    refine wpAny_pyNext_list_item st tp (x := u) (by simpa using hu) fun h' st' sb => ?_
    have J : Inv X pins σ H { s with heap := h' } := I.turned (t' := s.toks) (fun b o hb e => (sb.2 b hb).trans e) f0 f1 f3 f4 f5
    obtain ⟨o, e, c, d⟩ := id st'
    refine ⟨u, rfl, go_of (s := { s with heap := h' }) e c d (by decide) ⟨x, H, J, ru, ⟨rfl, fun ys hy => ?_⟩, st', fun b hb => (hf b hb).1⟩⟩
    rw [I.list_inj hy hq]
    exact hx
  done := by
    rintro X rfl rfl rfl hc i pins s σ H E I hf st ⟨xs, hq, hx⟩
    obtain ⟨its, rv, p, _⟩ := I.list hq
    obtain ⟨f0, f1, f2, f3, f4, f5⟩ := hf it (List.mem_singleton.mpr rfl)
    have hl := rv.length
    obtain ⟨x1, hot⟩ := hc.at I
    have tp : s.heap.IsList a its.toArray := p.isList
    exact next_list_end_hot hot st tp (by simp; omega) fun h' eb => ⟨rfl, I.turned (t' := s.toks) (fun b o hb e => eb b o hb e) f0 f1 f3 f4 f5⟩
  self := fun _ _ _ _ _ st h => wpAny_pyIter_listiter st h
theorem pi_listH {X : Cx} {tg l : Expr} {tl : TE} (hl : PE X l tl) : PIH X tg l (iList X.K tl) := by
  refine ⟨fun pins s σ H R I h => thn (hl.run pins s σ H _ I h) fun v s1 ⟨x, H1, I1, r1, a, e, ⟨xs, hq⟩, q⟩ => ?_⟩
  subst e
  cases r1
  obtain ⟨its, rv, p, _⟩ := I1.list hq
  have tp : s1.heap.IsList a its.toArray := p.isList
  refine wpAny_pyIter_list tp ⟨s1.heap.objs.size, [s1.heap.objs.size], _, _, H1, rfl, I1.kept (t' := s1.toks) (fun b o e => Heap.get?_push_of_some _ e), turn_listH a _, ⟨_, Heap.get?_push_size _ rfl, rfl, rfl⟩, fun b hb => ?_, q⟩
  rw [List.mem_singleton.mp hb]
  exact I1.fpOk (Nat.le_refl _) (I1.hok.fresh (Nat.le_refl _))
section
variable {X : Cx} {tg : Expr}
theorem pi_range2H {a b : Expr} {ta : TA} {p pos : Pos} (hg : Gl X "range") (hm : X.mg "range" = none) (ha : PA X [a, b] ta) (h1 : starEach [a, b] X.env = [(false, eval a X.env), (false, eval b X.env)] := by rfl) (h2 : starEach [b] X.env = [(false, eval b X.env)] := by rfl) :
    PIH X tg (.Call (.Name "range" p) [a, b] [] pos) (iRng2 ta) := by
  refine ⟨fun pins s σ H R I h => Call_ (ld_blt I hg hm boot_range (PyProof.Rows.callWith_type1 (thn (ha.run pos pins s σ H _ I h) fun us s1 ⟨vs, H1, I1, r1, q1⟩ => ?_) (by rw [h1, h2]) (by rw [h2]; rfl)))⟩
  obtain ⟨i, j, rfl, ⟨q1, q2, q3, q4⟩, q⟩ := q1
  cases r1 with
  | cons ra rr =>
    cases rr with
    | cons rb rn =>
      cases rn
      obtain ⟨_, rfl⟩ := ra
      obtain ⟨_, rfl⟩ := rb
      exact call_range_2 (range_itH I1 q1 q2 q3 q4 q)
end
/-! ### a comprehension while an error is handled: its block keeps that error's object as a pin -/
section
variable {X : Cx} {p : Addr × Obj}
/-- a pin moved between the context and the state's own -/
theorem inv_toPn {B : Cx} {σ : L2.St} {H : Hp} {s : Shared} (hb : B.pn = []) (I : Inv B [p] σ H s) : Inv { B with pn := [p] } [] σ H s :=
  ⟨⟨I.ok.mod, I.ok.kind, I.ok.glob, I.ok.blt, I.ok.above, I.ok.inj, I.ok.has, I.ok.cab, I.ok.hd, I.ok.frames, I.ok.stk, I.ok.exf, I.ok.bs, I.ok.bsz, I.ok.noex, I.ok.exfs, I.ok.funs, I.ok.frf⟩, I.os, I.bare, I.base, I.loc, I.cell, I.free, I.freeC,
    fun q hq => I.pin q (by rw [hb]; simpa using hq), I.hok, I.len⟩
theorem inv_fromPn {B : Cx} {σ : L2.St} {H : Hp} {s : Shared} (hb : B.pn = []) (I : Inv { B with pn := [p] } [] σ H s) : Inv B [p] σ H s :=
  ⟨⟨I.ok.mod, I.ok.kind, I.ok.glob, I.ok.blt, I.ok.above, I.ok.inj, I.ok.has, I.ok.cab, I.ok.hd, I.ok.frames, I.ok.stk, I.ok.exf, I.ok.bs, I.ok.bsz, I.ok.noex, I.ok.exfs, I.ok.funs, I.ok.frf⟩, I.os, I.bare, I.base, I.loc, I.cell, I.free, I.freeC,
    fun q hq => I.pin q (by rw [hb] at hq; simpa using hq), I.hok, I.len⟩
theorem fp_toPn {B : Cx} {H : Hp} {b : Addr} (hb : B.pn = []) (h : FpOk B [p] H b) : FpOk { B with pn := [p] } [] H b :=
  ⟨h.1, h.2.1, h.2.2.1, h.2.2.2.1, h.2.2.2.2.1, fun q hq => h.2.2.2.2.2 q (by rw [hb]; simpa using hq)⟩
variable {B : Cx} {tg : Expr} {J : It} {fp : List Addr} {it : Addr} {tn : Nat → Heap → Prop} {i : Nat} {s : Shared} {σ : L2.St} {H : Hp} {E : Value → Shared → Prop}
theorem hot_done (T : TurnH B.prog B.w B.K tg J fp it tn) (hb : B.pn = []) (h1 : Hot1 B.A p) (I : Inv B [p] σ H s) (hf : ∀ b ∈ fp, FpOk B [p] H b) (st : tn i s.heap) (h : J.stop i H) :
    wpAny (model B.prog B.w) B.A (pyNext (.ref it)) (fun r s1 => r = none ∧ Inv B [p] σ H s1) E s :=
  thn (T.done { B with pn := [p] } rfl rfl rfl ⟨p, h1, List.mem_cons_self⟩ i [] s σ H E (inv_toPn hb I) (fun b hbm => fp_toPn hb (hf b hbm)) st h) fun _ _ ⟨a, b⟩ => ⟨a, inv_fromPn hb b⟩
theorem hot_item (T : TurnH B.prog B.w B.K tg J fp it tn) (hb : B.pn = []) (h1 : Hot1 B.A p) (I : Inv B [p] σ H s) (hf : ∀ b ∈ fp, FpOk B [p] H b) (st : tn i s.heap) (h : J.go i H) :
    wpAny (model B.prog B.w) B.A (pyNext (.ref it)) (fun r s1 => ∃ u, r = some u ∧
      wpAny (model B.prog B.w) B.A (letOwnedTupleGo tg (.ref it) u) (fun _ s2 => ∃ x H', Inv B [p] σ H' s2 ∧ RelV x u ∧ J.yld i H x H' ∧ tn (i + 1) s2.heap ∧ ∀ b ∈ fp, H' b = none) E s1) E s :=
  thn (T.item { B with pn := [p] } rfl rfl rfl ⟨p, h1, List.mem_cons_self⟩ i [] s σ H E (inv_toPn hb I) (fun b hbm => fp_toPn hb (hf b hbm)) st h) fun _ _ ⟨u, a, b⟩ => ⟨u, a, thn b fun _ _ ⟨x, H', c, d⟩ => ⟨x, H', inv_fromPn hb c, d⟩⟩
end
section
variable {X : Cx}
/-- [elt for tg in iter if ..] -/
theorem pe_lcH {elt tg iter : Expr} {ifs : List Expr} {scope : Scope} {own : List (Str × Nat)} {pos : Pos} {wi : TI} {g : TG} {tt : TT} {te : TE} (hc : HotC X) (hN : X.N.Nodup) (hi : PIH X tg iter wi) (ok : BlkOk X.N X.env.scope scope own)
    (hg : ∀ (s : Shared) (H : Hp) (C : Addr) (cl : List (Str × Addr)) (fp : List Addr), PG (X.blk s H scope (compEnvC scope cl C X.env) fp) tg g) (ht : ∀ (s : Shared) (H : Hp) (C : Addr) (cl : List (Str × Addr)) (fp : List Addr), PTs (X.blk s H scope (compEnvC scope cl C X.env) fp) ifs tt)
    (he : ∀ (s : Shared) (H : Hp) (C : Addr) (cl : List (Str × Addr)) (fp : List Addr), PE (X.blk s H scope (compEnvC scope cl C X.env) fp) elt te) (hs : ∀ x, foldedSetIterable iter X.env x = pure x := by intro _; rfl) :
    PE X (.ListComp elt [⟨tg, iter, ifs, 0⟩] scope pos) (tLc wi g tt te (own.map (·.2))) := by
  refine ⟨fun pins s σ H Q I h => ?_⟩
  obtain ⟨p, hot, hp⟩ := hc
  have fr : ∀ y ∈ scope.names, y.2 = .free → ∃ c, X.env.cells.lookup y.1 = some c := fun y hy e => (ok.free y hy e).elim (fun k => I.ok.has _ (.inl k)) (fun k => I.ok.has _ (.inr k))
  rw [eval_ListComp]
  refine wpAny_comprehension_free (use := none) rfl hs (closure_ok fr) ok.kind (fun y hy e => by rw [ok.uniq y hy, e]) (thn (hi.run pins s σ H _ I h) fun _ _ hx => thn hx fun itv s2 h2 => ?_)
  obtain ⟨it, fp, tn, J, H2, rfl, I2, T, st2, f2, q⟩ := h2
  refine wpAny_newObj_type (newEnv_comp ?_) (by show 0 ≤ sizeLine; decide)
  generalize eD : s2.heap.objs.size = D
  obtain ⟨W, ⟨m0, w0⟩, turn⟩ := q D (I2.hok.fresh (Nat.le_of_eq eD))
  generalize e3 : ({ s2 with heap := s2.heap.push { cls := .type "list", data := .seq ([] : List Value).toArray } } : Shared) = s3
  have hp3 : s3.heap = s2.heap.push { cls := .type "list", data := .seq ([] : List Value).toArray } := by rw [← e3]
  have I3 : Inv X pins σ (upd H2 D (.lst [])) s3 := by
    subst e3
    exact I2.laid (t' := s2.toks) (fun b o e => Heap.get?_push_of_some _ e) (Nat.le_of_eq eD) ⟨Nat.zero_le _, [], 0, .nil, by rw [← eD]; exact Heap.get?_push_size _ rfl⟩
  have below : ∀ b ∈ fp, b < s2.heap.objs.size := fun b hb => let ⟨_, e, _⟩ := T.obj _ _ st2 b hb; Heap.lt_size e
  have f3 : ∀ b ∈ fp, FpOk X pins (upd H2 D (.lst [])) b ∧ b < s3.heap.objs.size := fun b hb =>
    ⟨⟨(upd_ne (by rw [← eD]; exact Nat.ne_of_lt (below b hb))).trans (f2 b hb).1, (f2 b hb).2⟩, by rw [hp3, Heap.size_push]; exact Nat.lt_succ_of_lt (below b hb)⟩
  have st3 : tn 0 s3.heap := T.keep _ _ _ st2 fun b _ o e => by rw [hp3]; exact Heap.get?_push_of_some _ e
  have B0 := block_start I3 ok hN f3
  -- the error's object, as a pin of the block
  have pin3 := I3.pin p (List.mem_append_left _ hp)
  have pinB : s3.heap.get? p.1 = some p.2 ∧ p.1 ∉ frs X.stack := by
    refine ⟨pin3.1, ?_⟩
    rcases I3.ok.stk with e | ⟨e, e2⟩
    · rw [e]
      exact pin3.2.2.2.1
    · rw [e]
      intro z
      unfold frs at z
      rw [List.filterMap_cons, e2] at z
      rcases List.mem_cons.mp z with z | z
      · exact pin3.2.2.1 z
      · exact pin3.2.2.2.1 z
  generalize ecl : cellsFrom (s3.heap.objs.size + 1) scope.names (cloFrom X.env.cells scope.names []) = cl at B0
  have pg := hg s3 (upd H2 D (.lst [])) s3.heap.objs.size cl fp
  have pt := ht s3 (upd H2 D (.lst [])) s3.heap.objs.size cl fp
  have pe := he s3 (upd H2 D (.lst [])) s3.heap.objs.size cl fp
  show codeAny _ _ (.compStart (.ListComp elt [⟨tg, iter, ifs, 0⟩] scope pos) 0 (.ref it) (.ref D) (compEnvC scope cl s3.heap.objs.size X.env)) (compPost (model X.prog X.w) X.A X.xe none (EP X pins σ Q) (.ref D) s3.heap.objs.size) { s3 with heap := pushCells (s3.heap.push { cls := .type "dict", data := .dict #[] }) scope.names }
  have fB : ∀ b ∈ fp, (upd H2 D (.lst [])) b = none := fun b hb => (f3 b hb).1.1
  generalize eH : upd H2 D (.lst []) = H3 at *
  generalize ec : compEnvC scope cl s3.heap.objs.size X.env = ce at *
  have cL : ce.locals = s3.heap.objs.size := by subst ec; rfl
  generalize e4 : ({ s3 with heap := pushCells (s3.heap.push { cls := .type "dict", data := .dict #[] }) scope.names } : Shared) = s4 at *
  have kp4 : ∀ b o, s3.heap.get? b = some o → s4.heap.get? b = some o := fun b o e => by rw [← e4]; exact pushCells_keeps _ _ _ _ (Heap.get?_push_of_some _ e)
  have I4 : Inv (X.blk s3 H3 scope ce fp) [p] (wipe σ (own.map (·.2))) H3 s4 := B0.pins_of fun q hq => by
    rw [List.mem_singleton.mp hq]
    exact ⟨kp4 _ _ pinB.1, pin3.2.1, by show p.1 ≠ ce.locals; rw [cL]; exact Nat.ne_of_lt (Heap.lt_size pinB.1), pinB.2, pin3.2.2.2.2⟩
  have st4 : tn 0 s4.heap := T.keep _ _ _ st3 fun b _ o e => kp4 b o e
  have apart : ∀ b ∈ fp, p.1 ≠ b := fun b hb => (f3 b hb).1.2.2.2.2.2 p (List.mem_append_left _ hp)
  have still : ∀ {σ' : L2.St} {H' : Hp} {s' : Shared}, Inv (X.blk s3 H3 scope ce fp) [p] σ' H' s' → (∀ b ∈ fp, H' b = none) → ∀ b ∈ fp, FpOk (X.blk s3 H3 scope ce fp) [p] H' b := fun I' hn b hb =>
    ⟨hn b hb, (I'.ok.exf b hb).1, I'.ok.exfs b hb, .inl hb, (I'.ok.exf b hb).2, fun q hq => by rw [List.mem_singleton.mp (show q ∈ [p] from hq)]; exact apart b hb⟩
  have loop : codeAny (model X.prog X.w) X.A (.compLoop (.ListComp elt [⟨tg, iter, ifs, 0⟩] scope pos) 0 (.ref it) (.ref D) ce) (compPost (model X.prog X.w) X.A X.xe none (EP X pins σ Q) (.ref D) s3.heap.objs.size) s4 := by
    refine compLoop_any (fun n s' => ∃ i H', Inv (X.blk s3 H3 scope ce fp) [p] (wipe σ (own.map (·.2))) H' s' ∧ tn i s'.heap ∧ (∀ b ∈ fp, H' b = none) ∧ W i n H') ?_ m0 ⟨0, H3, I4, st4, fB, w0⟩
    rintro n s5 ⟨i, H5, I5, st5, n5, w5⟩
    rcases turn i n H5 w5 with ⟨stop, qq⟩ | ⟨go, Nx, hNx, step⟩
    · refine thnF (hot_done (B := X.blk s3 H3 scope ce fp) (E := fun _ _ => False) T rfl hot I5 (still I5 n5) st5 stop) fun r s6 ⟨hr, I6⟩ => ?_
      subst hr
      have I7 : Inv X pins σ H5 s6 := I3.call' (ch := fp) I6.os I6.base I6.hok I6.bare fun b hb => ⟨(f3 b hb).1.2.2.2.1, (f3 b hb).1.2.1, (f3 b hb).1.2.2.2.2.1, (f3 b hb).1.2.2.2.2.2⟩
      have nC : H5 s3.heap.objs.size = none := by
        rw [← cL]
        exact I6.free
      obtain ⟨m, hn, _⟩ := I6.loc
      refine ⟨m, by rw [← cL]; exact hn, fun h'' sb => ?_⟩
      obtain ⟨g0, g1, g2, g3, g4, g5⟩ := I3.fpOk (H' := H5) (Nat.le_refl _) nC
      exact ⟨.ref D, H5, I7.turned (t' := s6.toks) (fun b o hb e => (sb.2 b hb).trans e) g0 g1 g3 g4 g5, rfl, qq⟩
    · refine thnF (hot_item (B := X.blk s3 H3 scope ce fp) (E := fun _ _ => False) T rfl hot I5 (still I5 n5) st5 go) fun r s6 ⟨u, hr, h6⟩ => ?_
      subst hr
      refine thnF h6 fun _ s7 ⟨x, H7, I7, r7, y7, st7, n7⟩ => ?_
      refine thnF (pg.run _ s7 _ H7 x u _ (I7.pinned (still I7 n7) (T.obj _ _ st7)) r7 (step x H7 y7)) fun _ s8 ⟨σ8, H8, I8, hw8, q8⟩ => ?_
      refine thnF (pt.run _ s8 σ8 H8 _ I8 q8) fun b s9 ⟨H9, I9, q9⟩ => ?_
      have next : ∀ {s' : Shared} {H' : Hp}, Inv (X.blk s3 H3 scope ce fp) ([p] ++ pinsAt fp s7.heap) σ8 H' s' → Nx H' → ∃ m, m < n ∧ ∃ i H', Inv (X.blk s3 H3 scope ce fp) [p] (wipe σ (own.map (·.2))) H' s' ∧ tn i s'.heap ∧ (∀ b ∈ fp, H' b = none) ∧ W i m H' := fun {s' H'} I' nx => by
        obtain ⟨m', hm, w'⟩ := hNx H' nx
        have at7 : ∀ b ∈ fp, ∀ o, s7.heap.get? b = some o → s'.heap.get? b = some o ∧ H' b = none := fun b hb o e =>
          have z := I'.pin (b, o) (List.mem_append_right _ (List.mem_append_right _ (mem_pinsAt hb e)))
          ⟨z.1, z.2.1⟩
        refine ⟨m', hm, i + 1, H', (I'.unpinned (pins := [p])).weak (by rw [← hw8, wipe_length]) (fun j v e => (wipe_some (hw8 ▸ e)).1), T.keep _ _ _ st7 fun b hb o e => (at7 b hb o e).1, fun b hb => ?_, w'⟩
        obtain ⟨o, e, _⟩ := T.obj _ _ st7 b hb
        exact (at7 b hb o e).2
      cases b with
      | false => exact next I9 q9
      | true =>
        refine thnF (pe.run _ s9 σ8 H9 _ I9 q9) fun z s10 ⟨yv, H10, I10, r10, acc, hD, hz, nx⟩ => ?_
        exact app_ok (X := X.blk s3 H3 scope ce fp) I10 hD hz r10 fun s11 I11 => next I11 nx
  exact codeAny_compStart_list loop (T.self X.A 0 _ _ _ st4 loop)
end
end Mz

set_option Elab.async false
set_option linter.all false
set_option maxRecDepth 100000
set_option maxHeartbeats 4000000
/-! dicts whose keys are tuples: a comprehension that makes one, del -/
namespace Mz
open PySem PySem.Spec PyProof.Rows L2
/-- one more key in a dict under work -/
theorem dset_T {X : Cx} {pins : List (Addr × Obj)} {σ : L2.St} {H : Hp} {s : Shared} {E : Value → Shared → Prop} {D b : Addr} {kvs : List (List L2.Key × V)} {k : List L2.Key} {v : V} {u r : Value} {Q : Unit → Shared → Prop} (hu : X.A.units + 1 < cLine) (I : Inv X pins σ H s)
    (hD : H D = some (.dT kvs)) (hb : H b = some (.tup (k.map kV))) (hz : kvs.length < sizeLine) (ry : RelV (.ref b) u) (rv : RelV v r) (h : ∀ s', Inv X pins σ (upd H D (.dT (putK kvs k v))) s' → Q () s') : wpAny (model X.prog X.w) X.A (dictSet D u r) Q E s := by
  obtain rfl : u = Value.ref b := ry
  obtain ⟨_, nsys, ls, rel, dd⟩ := dt_of I.hok hD
  have few : ls.length ≤ sizeLine := by
    have := Paired.length rel
    omega
  have few2 : (putK kvs k v).length ≤ sizeLine := by
    have := length_putK kvs k v
    omega
  have key := key_of I.hok hb
  unfold dictSet
  have room : (tupleKind (mixKind X.prog X.w)).room X.A := show X.A.units < cLine by omega
  refine wpAny_holding (wpAny_bind ((tupleKind (mixKind X.prog X.w)).pyHash room key ?_))
  refine wpAny_dictSetHashed_heap (knd := tupleKind (mixKind X.prog X.w)) (hsz := few) room key dd fun h' dd' hs => h _ ?_
  obtain ⟨o, es, ep, ho, h2, h3, h4, _, h5⟩ := dd'
  refine d_write (I.tok _) (by rw [hD]; exact True.intro) hs ⟨o, ho⟩ ⟨few2, nsys, _, (rel.put k hb rv).keeps fun c ys ec => ?_, o, es, ep, ho, h2, h3, h4, h5⟩
  rw [upd_ne (ne_of ec hD (fun z => nomatch z))]
  exact ec
/-- del d[k] -/
def sDelT (td ty : TE) : L2.TS := fun D σ H => td σ H fun x H1 => ty σ H1 fun y H2 => ∃ a b kvs k v, x = .ref a ∧ H2 a = some (.dT kvs) ∧ y = .ref b ∧ H2 b = some (.tup (k.map kV)) ∧ valV kvs k = some v ∧ D.nx σ (upd H2 a (.dT (dropK kvs k)))
theorem ps_delT {X : Cx} {o i : Expr} {pos tpos : Pos} {td ty : TE} (hu : X.A.units + 1 < cLine) (ho : PE X o td) (hi : PE X i ty) : PS X (.Delete [.Subscript o i tpos] pos) (sDelT td ty) := by
  refine ⟨fun pins s σ H D I h => ?_⟩
  refine wpAny_Delete (wpAny_deleteEach_cons (wpAny_delete_Subscript (thn (ho.run pins s σ H _ I h) fun u s1 ⟨x, H1, I1, rx, q1⟩ => thn (hi.run pins s1 σ H1 _ I1 q1) fun v s2 ⟨y, H2, I2, ry, a, b, kvs, k, v0, ex, ha, ey, hb, hv, q2⟩ => ?_)))
  subst ex ey
  obtain rfl : u = Value.ref a := rx
  obtain rfl : v = Value.ref b := ry
  obtain ⟨z, nsys, ls, rel, dd⟩ := dt_of I2.hok ha
  have few : ls.length ≤ sizeLine := by
    have := Paired.length rel
    omega
  refine wpAny_delItem_slot dd.typeIs (by decide) PySem.F.slot_dict_delitem (call_meetsIn PySem.F.slot_dict_delitem dd.typeIs PySem.F.entry_dict_delitem (PySem.F.args_dict_delitem_2 _ _) (meetsH_dict_delitem (tupleKind (mixKind X.prog X.w)) a b nsys)
    ⟨tupleKind_room_in1 hu, k, ls, key_of I2.hok hb, dd, few, fun p hp h' dd' hs => ?_, fun hn => ?_⟩)
  · obtain ⟨o, es, ep, hq, h2, h3, h4, _, h5⟩ := dd'
    have I3 := d_write (t' := s2.toks + (tupleKind (mixKind X.prog X.w)).draws k) (ob := .dT (dropK kvs k)) (I2.tok _) (by rw [ha]; exact True.intro) hs ⟨o, hq⟩ ⟨Nat.le_trans (dropK_le kvs k) z, nsys, _, (L2.DX.KT_drop k rel).keeps (fun c ys ec => (by rw [upd_ne (ne_of ec ha (fun z => nomatch z))]; exact ec)), o, es, ep, hq, h2, h3, h4, h5⟩
    exact wpAny_deleteEach_nil ⟨σ, _, I3, q2⟩
  · have r := rel.val k
    rw [hv, hn] at r
    exact (show False from r).elim
/-- {k: v for target in iter if ..}, the keys tuples: D the new dict -/
def tDcT (wi : TI) (g : TG) (tt : TT) (tk tv : TE) (ns : List Nat) : TE := fun σ H Q => wi σ H fun J H1 => ∀ D, H1 D = none →
  ∃ W : Nat → Nat → Hp → Prop, (∃ m, W 0 m (upd H1 D (.dT []))) ∧ ∀ i m H, W i m H →
    (J.stop i H ∧ Q (.ref D) H) ∨
    (J.go i H ∧ ∃ Nx : Hp → Prop, (∀ H', Nx H' → ∃ m', m' < m ∧ W (i + 1) m' H') ∧
      ∀ x H', J.yld i H x H' → g x (wipe σ ns) H' fun σ2 H2 => wipe σ2 ns = wipe σ ns ∧
        tt σ2 H2 fun c H3 => if c = true then (tk σ2 H3 fun y H4 => tv σ2 H4 fun z H5 => ∃ kvs k b, y = .ref b ∧ H5 b = some (.tup (k.map kV)) ∧ H5 D = some (.dT kvs) ∧ kvs.length < sizeLine ∧ Nx (upd H5 D (.dT (putK kvs k z)))) else Nx H3)
section
variable {X : Cx}
theorem pe_dcT {kx vx tg iter : Expr} {ifs : List Expr} {scope : Scope} {own : List (Str × Nat)} {pos : Pos} {wi : TI} {g : TG} {tt : TT} {tk tv : TE} (hu : X.A.units + 1 < cLine) (hc : X.calm = true) (hN : X.N.Nodup) (hi : PI X tg iter wi) (ok : BlkOk X.N X.env.scope scope own)
    (hg : ∀ (s : Shared) (H : Hp) (C : Addr) (cl : List (Str × Addr)) (fp : List Addr), PG (X.blk s H scope (compEnvC scope cl C X.env) fp) tg g) (ht : ∀ (s : Shared) (H : Hp) (C : Addr) (cl : List (Str × Addr)) (fp : List Addr), PTs (X.blk s H scope (compEnvC scope cl C X.env) fp) ifs tt)
    (hk : ∀ (s : Shared) (H : Hp) (C : Addr) (cl : List (Str × Addr)) (fp : List Addr), PE (X.blk s H scope (compEnvC scope cl C X.env) fp) kx tk) (he : ∀ (s : Shared) (H : Hp) (C : Addr) (cl : List (Str × Addr)) (fp : List Addr), PE (X.blk s H scope (compEnvC scope cl C X.env) fp) vx tv) (hs : ∀ x, foldedSetIterable iter X.env x = pure x := by intro _; rfl) :
    PE X (.DictComp kx vx [⟨tg, iter, ifs, 0⟩] scope pos) (tDcT wi g tt tk tv (own.map (·.2))) := by
  refine ⟨fun pins s σ H Q I h => ?_⟩
  have fr : ∀ y ∈ scope.names, y.2 = .free → ∃ c, X.env.cells.lookup y.1 = some c := fun y hy e => (ok.free y hy e).elim (fun k => I.ok.has _ (.inl k)) (fun k => I.ok.has _ (.inr k))
  rw [arm_eval_DictComp]
  refine wpAny_comprehension_free (use := none) rfl hs (closure_ok fr) ok.kind (fun y hy e => by rw [ok.uniq y hy, e]) (thn (hi.run pins s σ H _ I h) fun _ _ hx => thn hx fun itv s2 h2 => ?_)
  obtain ⟨it, fp, tn, J, H2, rfl, I2, T, st2, f2, q⟩ := h2
  refine wpAny_newObj_type (newEnv_comp ?_)
  generalize eD : s2.heap.objs.size = D
  obtain ⟨W, ⟨m0, w0⟩, turn⟩ := q D (I2.hok.fresh (Nat.le_of_eq eD))
  generalize e3 : ({ s2 with heap := s2.heap.push { cls := .type "dict", data := .dict #[] } } : Shared) = s3
  have hp3 : s3.heap = s2.heap.push { cls := .type "dict", data := .dict #[] } := by rw [← e3]
  have I3 : Inv X pins σ (upd H2 D (.dT [])) s3 := by
    subst e3
    exact I2.laid (t' := s2.toks) (fun b o e => Heap.get?_push_of_some _ e) (Nat.le_of_eq eD) (by rw [← eD]; exact dt_empty s2.heap I2.big)
  have below : ∀ b ∈ fp, b < s2.heap.objs.size := fun b hb => let ⟨_, e, _⟩ := T.obj _ _ st2 b hb; Heap.lt_size e
  have f3 : ∀ b ∈ fp, FpOk X pins (upd H2 D (.dT [])) b ∧ b < s3.heap.objs.size := fun b hb =>
    ⟨⟨(upd_ne (by rw [← eD]; exact Nat.ne_of_lt (below b hb))).trans (f2 b hb).1, (f2 b hb).2⟩, by rw [hp3, Heap.size_push]; exact Nat.lt_succ_of_lt (below b hb)⟩
  have st3 : tn 0 s3.heap := T.keep _ _ _ st2 fun b _ o e => by rw [hp3]; exact Heap.get?_push_of_some _ e
  have B0 := block_start I3 ok hN f3
  generalize ecl : cellsFrom (s3.heap.objs.size + 1) scope.names (cloFrom X.env.cells scope.names []) = cl at B0
  have pg := hg s3 (upd H2 D (.dT [])) s3.heap.objs.size cl fp
  have pt := ht s3 (upd H2 D (.dT [])) s3.heap.objs.size cl fp
  have pk := hk s3 (upd H2 D (.dT [])) s3.heap.objs.size cl fp
  have pe := he s3 (upd H2 D (.dT [])) s3.heap.objs.size cl fp
  show codeAny _ _ (.compStart (.DictComp kx vx [⟨tg, iter, ifs, 0⟩] scope pos) 0 (.ref it) (.ref D) (compEnvC scope cl s3.heap.objs.size X.env)) (compPost (model X.prog X.w) X.A X.xe none (EP X pins σ Q) (.ref D) s3.heap.objs.size) { s3 with heap := pushCells (s3.heap.push { cls := .type "dict", data := .dict #[] }) scope.names }
  have fB : ∀ b ∈ fp, (upd H2 D (.dT [])) b = none := fun b hb => (f3 b hb).1.1
  generalize eH : upd H2 D (.dT []) = H3 at *
  generalize ec : compEnvC scope cl s3.heap.objs.size X.env = ce at *
  have cL : ce.locals = s3.heap.objs.size := by subst ec; rfl
  generalize e4 : ({ s3 with heap := pushCells (s3.heap.push { cls := .type "dict", data := .dict #[] }) scope.names } : Shared) = s4 at *
  have kp4 : ∀ b o, s3.heap.get? b = some o → s4.heap.get? b = some o := fun b o e => by rw [← e4]; exact pushCells_keeps _ _ _ _ (Heap.get?_push_of_some _ e)
  have I4 : Inv (X.blk s3 H3 scope ce fp) [] (wipe σ (own.map (·.2))) H3 s4 := B0
  have st4 : tn 0 s4.heap := T.keep _ _ _ st3 fun b _ o e => kp4 b o e
  have still : ∀ {σ' : L2.St} {H' : Hp} {s' : Shared}, Inv (X.blk s3 H3 scope ce fp) [] σ' H' s' → (∀ b ∈ fp, H' b = none) → ∀ b ∈ fp, FpOk (X.blk s3 H3 scope ce fp) [] H' b := fun I' hn b hb =>
    ⟨hn b hb, (I'.ok.exf b hb).1, I'.ok.exfs b hb, .inl hb, (I'.ok.exf b hb).2, fun q hq => absurd (show q ∈ ([] : List (Addr × Obj)) from hq) (by simp)⟩
  have loop : codeAny (model X.prog X.w) X.A (.compLoop (.DictComp kx vx [⟨tg, iter, ifs, 0⟩] scope pos) 0 (.ref it) (.ref D) ce) (compPost (model X.prog X.w) X.A X.xe none (EP X pins σ Q) (.ref D) s3.heap.objs.size) s4 := by
    refine compLoop_anyD (fun n s' => ∃ i H', Inv (X.blk s3 H3 scope ce fp) [] (wipe σ (own.map (·.2))) H' s' ∧ tn i s'.heap ∧ (∀ b ∈ fp, H' b = none) ∧ W i n H') ?_ m0 ⟨0, H3, I4, st4, fB, w0⟩
    rintro n s5 ⟨i, H5, I5, st5, n5, w5⟩
    rcases turn i n H5 w5 with ⟨stop, qq⟩ | ⟨go, Nx, hNx, step⟩
    · refine thnF (T.done (X.blk s3 H3 scope ce fp) rfl rfl rfl hc i [] s5 _ H5 (fun _ _ => False) I5 (still I5 n5) st5 stop) fun r s6 ⟨hr, I6⟩ => ?_
      subst hr
      have I7 : Inv X pins σ H5 s6 := I3.call' (ch := fp) I6.os I6.base I6.hok I6.bare fun b hb => ⟨(f3 b hb).1.2.2.2.1, (f3 b hb).1.2.1, (f3 b hb).1.2.2.2.2.1, (f3 b hb).1.2.2.2.2.2⟩
      have nC : H5 s3.heap.objs.size = none := by
        rw [← cL]
        exact I6.free
      obtain ⟨m, hn, _⟩ := I6.loc
      refine ⟨m, by rw [← cL]; exact hn, fun h'' sb => ?_⟩
      obtain ⟨g0, g1, g2, g3, g4, g5⟩ := I3.fpOk (H' := H5) (Nat.le_refl _) nC
      exact ⟨.ref D, H5, I7.turned (t' := s6.toks) (fun b o hb e => (sb.2 b hb).trans e) g0 g1 g3 g4 g5, rfl, qq⟩
    · refine thnF (T.item (X.blk s3 H3 scope ce fp) rfl rfl rfl hc i [] s5 _ H5 (fun _ _ => False) I5 (still I5 n5) st5 go) fun r s6 ⟨u, hr, h6⟩ => ?_
      subst hr
      refine thnF h6 fun _ s7 ⟨x, H7, I7, r7, y7, st7, n7⟩ => ?_
      refine thnF (pg.run _ s7 _ H7 x u _ (I7.pinned (still I7 n7) (T.obj _ _ st7)) r7 (step x H7 y7)) fun _ s8 ⟨σ8, H8, I8, hw8, q8⟩ => ?_
      refine thnF (pt.run _ s8 σ8 H8 _ I8 q8) fun b s9 ⟨H9, I9, q9⟩ => ?_
      have next : ∀ {s' : Shared} {H' : Hp}, Inv (X.blk s3 H3 scope ce fp) ([] ++ pinsAt fp s7.heap) σ8 H' s' → Nx H' → ∃ m, m < n ∧ ∃ i H', Inv (X.blk s3 H3 scope ce fp) [] (wipe σ (own.map (·.2))) H' s' ∧ tn i s'.heap ∧ (∀ b ∈ fp, H' b = none) ∧ W i m H' := fun {s' H'} I' nx => by
        obtain ⟨m', hm, w'⟩ := hNx H' nx
        have at7 : ∀ b ∈ fp, ∀ o, s7.heap.get? b = some o → s'.heap.get? b = some o ∧ H' b = none := fun b hb o e =>
          have z := I'.pin (b, o) (List.mem_append_right _ (List.mem_append_right _ (mem_pinsAt hb e)))
          ⟨z.1, z.2.1⟩
        refine ⟨m', hm, i + 1, H', (I'.unpinned (pins := [])).weak (by rw [← hw8, wipe_length]) (fun j v e => (wipe_some (hw8 ▸ e)).1), T.keep _ _ _ st7 fun b hb o e => (at7 b hb o e).1, fun b hb => ?_, w'⟩
        obtain ⟨o, e, _⟩ := T.obj _ _ st7 b hb
        exact (at7 b hb o e).2
      cases b with
      | false => exact next I9 q9
      | true =>
        refine thnF (pk.run _ s9 σ8 H9 _ I9 q9) fun z s10 ⟨yk, H10, I10, r10, q10⟩ => ?_
        refine thnF (pe.run _ s10 σ8 H10 _ I10 q10) fun z2 s11 ⟨yv, H11, I11, r11, kvs, k, b, ek, eb, hD11, hz11, nx⟩ => ?_
        subst ek
        exact dset_T (X := X.blk s3 H3 scope ce fp) hu I11 hD11 eb hz11 r10 r11 fun s12 I12 => next I12 nx
  exact codeAny_compStart_dict loop (T.self X.A 0 _ _ _ st4 loop)
end
end Mz

set_option Elab.async false
set_option linter.all false
set_option maxRecDepth 100000
set_option maxHeartbeats 4000000
/-! name = {k: v for ..} with tuples as keys, the name a local: stored in the comprehension's last step -/
namespace Mz
open PySem PySem.Spec PyProof.Rows L2
section
variable {X : Cx}
theorem dc_coreT {pins : List (Addr × Obj)} {s : Shared} {σ : L2.St} {H : Hp} {Q : VK} {pos' : Pos} {use : Option (Value → Sem Unit)} {Qf : Value → Shared → Prop} (I : Inv X pins σ H s) {kx vx tg iter : Expr} {ifs : List Expr} {scope : Scope} {own : List (Str × Nat)} {pos : Pos} {wi : TI} {g : TG} {tt : TT} {tk tv : TE} (hu : X.A.units + 1 < cLine) (hc : X.calm = true) (hN : X.N.Nodup) (hi : PI X tg iter wi) (ok : BlkOk X.N X.env.scope scope own)
    (hg : ∀ (s : Shared) (H : Hp) (C : Addr) (cl : List (Str × Addr)) (fp : List Addr), PG (X.blk s H scope (compEnvC scope cl C X.env) fp) tg g) (ht : ∀ (s : Shared) (H : Hp) (C : Addr) (cl : List (Str × Addr)) (fp : List Addr), PTs (X.blk s H scope (compEnvC scope cl C X.env) fp) ifs tt)
    (hk : ∀ (s : Shared) (H : Hp) (C : Addr) (cl : List (Str × Addr)) (fp : List Addr), PE (X.blk s H scope (compEnvC scope cl C X.env) fp) kx tk) (he : ∀ (s : Shared) (H : Hp) (C : Addr) (cl : List (Str × Addr)) (fp : List Addr), PE (X.blk s H scope (compEnvC scope cl C X.env) fp) vx tv) (hs : ∀ x, foldedSetIterable iter X.env x = pure x)
    (h : tDcT wi g tt tk tv (own.map (·.2)) σ H Q)
    (hRR : ∀ D C s' m H', Inv X pins σ H' s' → Q (.ref D) H' → s'.heap.Ns C m → FpOk X pins H' C → compPost (model X.prog X.w) X.A X.xe use Qf (.ref D) C (.ok .next) s') :
    wpAny (model X.prog X.w) X.A (comprehension (.DictComp kx vx [⟨tg, iter, ifs, 0⟩] scope pos) scope X.env pos' newDict false (eval iter X.env) use) Qf X.xe s := by
  have fr : ∀ y ∈ scope.names, y.2 = .free → ∃ c, X.env.cells.lookup y.1 = some c := fun y hy e => (ok.free y hy e).elim (fun k => I.ok.has _ (.inl k)) (fun k => I.ok.has _ (.inr k))
  refine wpAny_comprehension_free (use := use) rfl hs (closure_ok fr) ok.kind (fun y hy e => by rw [ok.uniq y hy, e]) (thn (hi.run pins s σ H _ I h) fun _ _ hx => thn hx fun itv s2 h2 => ?_)
  obtain ⟨it, fp, tn, J, H2, rfl, I2, T, st2, f2, q⟩ := h2
  refine wpAny_newObj_type (newEnv_comp ?_)
  generalize eD : s2.heap.objs.size = D
  obtain ⟨W, ⟨m0, w0⟩, turn⟩ := q D (I2.hok.fresh (Nat.le_of_eq eD))
  generalize e3 : ({ s2 with heap := s2.heap.push { cls := .type "dict", data := .dict #[] } } : Shared) = s3
  have hp3 : s3.heap = s2.heap.push { cls := .type "dict", data := .dict #[] } := by rw [← e3]
  have I3 : Inv X pins σ (upd H2 D (.dT [])) s3 := by
    subst e3
    exact I2.laid (t' := s2.toks) (fun b o e => Heap.get?_push_of_some _ e) (Nat.le_of_eq eD) (by rw [← eD]; exact dt_empty s2.heap I2.big)
  have below : ∀ b ∈ fp, b < s2.heap.objs.size := fun b hb => let ⟨_, e, _⟩ := T.obj _ _ st2 b hb; Heap.lt_size e
  have f3 : ∀ b ∈ fp, FpOk X pins (upd H2 D (.dT [])) b ∧ b < s3.heap.objs.size := fun b hb =>
    ⟨⟨(upd_ne (by rw [← eD]; exact Nat.ne_of_lt (below b hb))).trans (f2 b hb).1, (f2 b hb).2⟩, by rw [hp3, Heap.size_push]; exact Nat.lt_succ_of_lt (below b hb)⟩
  have st3 : tn 0 s3.heap := T.keep _ _ _ st2 fun b _ o e => by rw [hp3]; exact Heap.get?_push_of_some _ e
  have B0 := block_start I3 ok hN f3
  generalize ecl : cellsFrom (s3.heap.objs.size + 1) scope.names (cloFrom X.env.cells scope.names []) = cl at B0
  have pg := hg s3 (upd H2 D (.dT [])) s3.heap.objs.size cl fp
  have pt := ht s3 (upd H2 D (.dT [])) s3.heap.objs.size cl fp
  have pk := hk s3 (upd H2 D (.dT [])) s3.heap.objs.size cl fp
  have pe := he s3 (upd H2 D (.dT [])) s3.heap.objs.size cl fp
  show codeAny _ _ (.compStart (.DictComp kx vx [⟨tg, iter, ifs, 0⟩] scope pos) 0 (.ref it) (.ref D) (compEnvC scope cl s3.heap.objs.size X.env)) (compPost (model X.prog X.w) X.A X.xe use Qf (.ref D) s3.heap.objs.size) { s3 with heap := pushCells (s3.heap.push { cls := .type "dict", data := .dict #[] }) scope.names }
  have fB : ∀ b ∈ fp, (upd H2 D (.dT [])) b = none := fun b hb => (f3 b hb).1.1
  generalize eH : upd H2 D (.dT []) = H3 at *
  generalize ec : compEnvC scope cl s3.heap.objs.size X.env = ce at *
  have cL : ce.locals = s3.heap.objs.size := by subst ec; rfl
  generalize e4 : ({ s3 with heap := pushCells (s3.heap.push { cls := .type "dict", data := .dict #[] }) scope.names } : Shared) = s4 at *
  have kp4 : ∀ b o, s3.heap.get? b = some o → s4.heap.get? b = some o := fun b o e => by rw [← e4]; exact pushCells_keeps _ _ _ _ (Heap.get?_push_of_some _ e)
  have I4 : Inv (X.blk s3 H3 scope ce fp) [] (wipe σ (own.map (·.2))) H3 s4 := B0
  have st4 : tn 0 s4.heap := T.keep _ _ _ st3 fun b _ o e => kp4 b o e
  have still : ∀ {σ' : L2.St} {H' : Hp} {s' : Shared}, Inv (X.blk s3 H3 scope ce fp) [] σ' H' s' → (∀ b ∈ fp, H' b = none) → ∀ b ∈ fp, FpOk (X.blk s3 H3 scope ce fp) [] H' b := fun I' hn b hb =>
    ⟨hn b hb, (I'.ok.exf b hb).1, I'.ok.exfs b hb, .inl hb, (I'.ok.exf b hb).2, fun q hq => absurd (show q ∈ ([] : List (Addr × Obj)) from hq) (by simp)⟩
  have loop : codeAny (model X.prog X.w) X.A (.compLoop (.DictComp kx vx [⟨tg, iter, ifs, 0⟩] scope pos) 0 (.ref it) (.ref D) ce) (compPost (model X.prog X.w) X.A X.xe use Qf (.ref D) s3.heap.objs.size) s4 := by
    refine compLoop_anyD (fun n s' => ∃ i H', Inv (X.blk s3 H3 scope ce fp) [] (wipe σ (own.map (·.2))) H' s' ∧ tn i s'.heap ∧ (∀ b ∈ fp, H' b = none) ∧ W i n H') ?_ m0 ⟨0, H3, I4, st4, fB, w0⟩
    rintro n s5 ⟨i, H5, I5, st5, n5, w5⟩
    rcases turn i n H5 w5 with ⟨stop, qq⟩ | ⟨go, Nx, hNx, step⟩
    · refine thnF (T.done (X.blk s3 H3 scope ce fp) rfl rfl rfl hc i [] s5 _ H5 (fun _ _ => False) I5 (still I5 n5) st5 stop) fun r s6 ⟨hr, I6⟩ => ?_
      subst hr
      have I7 : Inv X pins σ H5 s6 := I3.call' (ch := fp) I6.os I6.base I6.hok I6.bare fun b hb => ⟨(f3 b hb).1.2.2.2.1, (f3 b hb).1.2.1, (f3 b hb).1.2.2.2.2.1, (f3 b hb).1.2.2.2.2.2⟩
      have nC : H5 s3.heap.objs.size = none := by
        rw [← cL]
        exact I6.free
      obtain ⟨m, hn, _⟩ := I6.loc
      exact hRR D _ s6 m H5 I7 qq (by rw [← cL]; exact hn) (I3.fpOk (H' := H5) (Nat.le_refl _) nC)
    · refine thnF (T.item (X.blk s3 H3 scope ce fp) rfl rfl rfl hc i [] s5 _ H5 (fun _ _ => False) I5 (still I5 n5) st5 go) fun r s6 ⟨u, hr, h6⟩ => ?_
      subst hr
      refine thnF h6 fun _ s7 ⟨x, H7, I7, r7, y7, st7, n7⟩ => ?_
      refine thnF (pg.run _ s7 _ H7 x u _ (I7.pinned (still I7 n7) (T.obj _ _ st7)) r7 (step x H7 y7)) fun _ s8 ⟨σ8, H8, I8, hw8, q8⟩ => ?_
      refine thnF (pt.run _ s8 σ8 H8 _ I8 q8) fun b s9 ⟨H9, I9, q9⟩ => ?_
      have next : ∀ {s' : Shared} {H' : Hp}, Inv (X.blk s3 H3 scope ce fp) ([] ++ pinsAt fp s7.heap) σ8 H' s' → Nx H' → ∃ m, m < n ∧ ∃ i H', Inv (X.blk s3 H3 scope ce fp) [] (wipe σ (own.map (·.2))) H' s' ∧ tn i s'.heap ∧ (∀ b ∈ fp, H' b = none) ∧ W i m H' := fun {s' H'} I' nx => by
        obtain ⟨m', hm, w'⟩ := hNx H' nx
        have at7 : ∀ b ∈ fp, ∀ o, s7.heap.get? b = some o → s'.heap.get? b = some o ∧ H' b = none := fun b hb o e =>
          have z := I'.pin (b, o) (List.mem_append_right _ (List.mem_append_right _ (mem_pinsAt hb e)))
          ⟨z.1, z.2.1⟩
        refine ⟨m', hm, i + 1, H', (I'.unpinned (pins := [])).weak (by rw [← hw8, wipe_length]) (fun j v e => (wipe_some (hw8 ▸ e)).1), T.keep _ _ _ st7 fun b hb o e => (at7 b hb o e).1, fun b hb => ?_, w'⟩
        obtain ⟨o, e, _⟩ := T.obj _ _ st7 b hb
        exact (at7 b hb o e).2
      cases b with
      | false => exact next I9 q9
      | true =>
        refine thnF (pk.run _ s9 σ8 H9 _ I9 q9) fun z s10 ⟨yk, H10, I10, r10, q10⟩ => ?_
        refine thnF (pe.run _ s10 σ8 H10 _ I10 q10) fun z2 s11 ⟨yv, H11, I11, r11, kvs, k, b, ek, eb, hD11, hz11, nx⟩ => ?_
        subst ek
        exact dset_T (X := X.blk s3 H3 scope ce fp) hu I11 hD11 eb hz11 r10 r11 fun s12 I12 => next I12 nx
  exact codeAny_compStart_dict loop (T.self X.A 0 _ _ _ st4 loop)

theorem ps_setDcT {i : Nat} {y : Str} {py : Pos} {spos : Pos} {kx vx tg iter : Expr} {ifs : List Expr} {scope : Scope} {own : List (Str × Nat)} {pos : Pos} {wi : TI} {g : TG} {tt : TT} {tk tv : TE} (hy : X.N[i]? = some y) (hyl : X.env.scope.names.lookup y = some .local) (hsw : swapsWith (.DictComp kx vx [⟨tg, iter, ifs, 0⟩] scope pos) (some (.Name y py)) spos.line X.env = pure true) (hu : X.A.units + 1 < cLine) (hc : X.calm = true) (hN : X.N.Nodup) (hi : PI X tg iter wi) (ok : BlkOk X.N X.env.scope scope own)
    (hg : ∀ (s : Shared) (H : Hp) (C : Addr) (cl : List (Str × Addr)) (fp : List Addr), PG (X.blk s H scope (compEnvC scope cl C X.env) fp) tg g) (ht : ∀ (s : Shared) (H : Hp) (C : Addr) (cl : List (Str × Addr)) (fp : List Addr), PTs (X.blk s H scope (compEnvC scope cl C X.env) fp) ifs tt)
    (hk : ∀ (s : Shared) (H : Hp) (C : Addr) (cl : List (Str × Addr)) (fp : List Addr), PE (X.blk s H scope (compEnvC scope cl C X.env) fp) kx tk) (he : ∀ (s : Shared) (H : Hp) (C : Addr) (cl : List (Str × Addr)) (fp : List Addr), PE (X.blk s H scope (compEnvC scope cl C X.env) fp) vx tv) (hs : ∀ x, foldedSetIterable iter X.env x = pure x := by intro _; rfl) :
    PS X (.Assign [.Name y py] (.DictComp kx vx [⟨tg, iter, ifs, 0⟩] scope pos) spos) (tAsg (tDcT wi g tt tk tv (own.map (·.2))) (gName i)) := by
  refine ⟨fun pins s σ H D I h => ?_⟩
  rw [exec_Assign_Name_used _ _ _ _ hsw]
  refine wpAny_bind (wpAny_standAt (wpAny_bind ?_))
  show wpAny _ X.A (do let _ ← comprehension (.DictComp kx vx [⟨tg, iter, ifs, 0⟩] scope pos) scope X.env (firstIterPos [⟨tg, iter, ifs, 0⟩] pos) newDict false (eval iter X.env) (some (assign (.Name y py) X.env))) _ _ s
  have h : tDcT wi g tt tk tv (own.map (·.2)) σ H (fun x H1 => gName i x σ H1 D.nx) := h
  refine wpAny_bind (thn (dc_coreT (Qf := fun _ s' => SP X pins D .next s') I hu hc hN hi ok hg ht hk he hs h fun L C s' m H' I' q hn f => ?_) fun _ s' hq => wpAny_pure (wpAny_pure hq))
  show wpAny _ _ (assign (.Name y py) X.env (.ref L)) _ _ _
  refine wpAny_assign_Name (store_ok2 (v := V.ref L) I' hN hy (.inl hyl) rfl (fun s2 I2 ⟨a, sb, ha⟩ => ?_) (.inr hyl))
  obtain ⟨f0, f1, f2, f3, f4, f5⟩ := f
  have haC : C ≠ a := by
    rcases ha with z | z
    · rw [z]; exact f1
    · exact fun e => f4 y a z e.symm
  refine ⟨m, hn.sameBut sb haC, fun h3 sb3 => ?_⟩
  exact ⟨_, H', I2.turned (t' := s2.toks) (fun b o hb e => (sb3.2 b hb).trans e) f0 f1 f3 f4 f5, q⟩
theorem sw_trueD {kx vx : Expr} {gs : List Comprehension} {scope : Scope} {pos py : Pos} {y : Str} {l : Nat} {env : Env} (hk : env.scope.kind = .function) (hy : env.scope.names.lookup y = some .local) (hl : (py.line == pos.line) = true)
    (ha : (scope.names.any fun (n, k) => n == y && (k == .local || k == .cell)) = false) : swapsWith (.DictComp kx vx gs scope pos) (some (.Name y py)) l env = pure true := by
  have ky : env.kindOf y = some .local := hy
  have hb : env.blockKind = .function := by unfold Env.blockKind; rw [hk]; rfl
  unfold swapsWith
  simp only [hb, ky, ha, Expr.pos, hl]
  rfl
end
end Mz

set_option Elab.async false
set_option linter.all false
set_option maxRecDepth 100000
set_option maxHeartbeats 4000000
/-! name = {k: v for ..} with ints as keys, the name a local -/
namespace Mz
open PySem PySem.Spec PyProof.Rows L2
section
variable {X : Cx}
theorem ps_setDcK {i : Nat} {y : Str} {py : Pos} {spos : Pos} {kx vx tg iter : Expr} {ifs : List Expr} {scope : Scope} {own : List (Str × Nat)} {pos : Pos} {wi : TI} {g : TG} {tt : TT} {tk tv : TE} (hy : X.N[i]? = some y) (hyl : X.env.scope.names.lookup y = some .local) (hsw : swapsWith (.DictComp kx vx [⟨tg, iter, ifs, 0⟩] scope pos) (some (.Name y py)) spos.line X.env = pure true) (hu : X.A.units + 1 < cLine) (hc : X.calm = true) (hN : X.N.Nodup) (hi : PI X tg iter wi) (ok : BlkOk X.N X.env.scope scope own)
    (hg : ∀ (s : Shared) (H : Hp) (C : Addr) (cl : List (Str × Addr)) (fp : List Addr), PG (X.blk s H scope (compEnvC scope cl C X.env) fp) tg g) (ht : ∀ (s : Shared) (H : Hp) (C : Addr) (cl : List (Str × Addr)) (fp : List Addr), PTs (X.blk s H scope (compEnvC scope cl C X.env) fp) ifs tt)
    (hk : ∀ (s : Shared) (H : Hp) (C : Addr) (cl : List (Str × Addr)) (fp : List Addr), PE (X.blk s H scope (compEnvC scope cl C X.env) fp) kx tk) (he : ∀ (s : Shared) (H : Hp) (C : Addr) (cl : List (Str × Addr)) (fp : List Addr), PE (X.blk s H scope (compEnvC scope cl C X.env) fp) vx tv) (hs : ∀ x, foldedSetIterable iter X.env x = pure x := by intro _; rfl) :
    PS X (.Assign [.Name y py] (.DictComp kx vx [⟨tg, iter, ifs, 0⟩] scope pos) spos) (tAsg (tDc wi g tt tk tv (own.map (·.2))) (gName i)) := by
  refine ⟨fun pins s σ H D I h => ?_⟩
  rw [exec_Assign_Name_used _ _ _ _ hsw]
  refine wpAny_bind (wpAny_standAt (wpAny_bind ?_))
  show wpAny _ X.A (do let _ ← comprehension (.DictComp kx vx [⟨tg, iter, ifs, 0⟩] scope pos) scope X.env (firstIterPos [⟨tg, iter, ifs, 0⟩] pos) newDict false (eval iter X.env) (some (assign (.Name y py) X.env))) _ _ s
  have h : tDc wi g tt tk tv (own.map (·.2)) σ H (fun x H1 => gName i x σ H1 D.nx) := h
  refine wpAny_bind (thn (dc_core (Qf := fun _ s' => SP X pins D .next s') hc hN I hi ok hg ht hk he hs h fun L C s' m H' I' q hn f => ?_) fun _ s' hq => wpAny_pure (wpAny_pure hq))
  show wpAny _ _ (assign (.Name y py) X.env (.ref L)) _ _ _
  refine wpAny_assign_Name (store_ok2 (v := V.ref L) I' hN hy (.inl hyl) rfl (fun s2 I2 ⟨a, sb, ha⟩ => ?_) (.inr hyl))
  obtain ⟨f0, f1, f2, f3, f4, f5⟩ := f
  have haC : C ≠ a := by
    rcases ha with z | z
    · rw [z]; exact f1
    · exact fun e => f4 y a z e.symm
  refine ⟨m, hn.sameBut sb haC, fun h3 sb3 => ?_⟩
  exact ⟨_, H', I2.turned (t' := s2.toks) (fun b o hb e => (sb3.2 b hb).trans e) f0 f1 f3 f4 f5, q⟩
end
/-- a dict comprehension over a walk: Pv by the turn and the heap (the new dict at D within) -/
theorem dc_it {J : It} {n : Nat} {G : Hp → Prop} {Y : Nat → Hp → V → Hp → Prop} (w : Walk J n G Y) {g : TG} {tt : TT} {tk tv : TE} {vs : List Nat} {σ : L2.St} {H1 : Hp} {D : Addr} {Qd : Hp → Prop} (Pv : Nat → Hp → Prop) (h0 : Pv 0 (upd H1 D (.dK []))) (hG : ∀ i H, i ≤ n → Pv i H → G H)
    (hs : ∀ i x H H', i < n → Pv i H → Y i H x H' → g x (wipe σ vs) H' fun σ2 H2 => wipe σ2 vs = wipe σ vs ∧ tt σ2 H2 fun b H3 =>
      if b = true then tk σ2 H3 fun y H4 => tv σ2 H4 fun z H5 => ∃ kvs k, y = kV k ∧ H5 D = some (.dK kvs) ∧ kvs.length < sizeLine ∧ Pv (i + 1) (upd H5 D (.dK (putK kvs k z))) else Pv (i + 1) H3) (hd : ∀ H, Pv n H → Qd H) :
    ∃ W : Nat → Nat → Hp → Prop, (∃ m, W 0 m (upd H1 D (.dK []))) ∧ ∀ i m H, W i m H →
      (J.stop i H ∧ Qd H) ∨ (J.go i H ∧ ∃ Nx : Hp → Prop, (∀ H', Nx H' → ∃ m', m' < m ∧ W (i + 1) m' H') ∧ ∀ x H', J.yld i H x H' → g x (wipe σ vs) H' fun σ2 H2 => wipe σ2 vs = wipe σ vs ∧ tt σ2 H2 fun b H3 =>
        if b = true then tk σ2 H3 fun y H4 => tv σ2 H4 fun z H5 => ∃ kvs k, y = kV k ∧ H5 D = some (.dK kvs) ∧ kvs.length < sizeLine ∧ Nx (upd H5 D (.dK (putK kvs k z))) else Nx H3) := by
  refine ⟨fun i m H => m = n - i ∧ i ≤ n ∧ Pv i H, ⟨n, by simp, Nat.zero_le _, h0⟩, ?_⟩
  rintro i m H ⟨rfl, hi, p⟩
  have q := hG i H hi p
  by_cases hlt : i < n
  · exact .inr ⟨w.goes i H hlt q, Pv (i + 1), fun H' p' => ⟨n - (i + 1), by omega, rfl, hlt, p'⟩, fun x H' y => hs i x H H' hlt p (w.yields i H x H' hlt q y)⟩
  · have e : i = n := by omega
    subst e
    exact .inl ⟨w.stops H q, hd H p⟩
end Mz

set_option Elab.async false
set_option linter.all false
set_option maxRecDepth 100000
set_option maxHeartbeats 4000000
namespace K63
open PySem PySem.Spec PyProof.Rows L2 Mz
/-- a set as a dict -/
abbrev kvB (fk : List Int) : List (Key × V) := fk.map fun k => ((.inl k : Key), V.bl true)
def addK (fk : List Int) (k : Int) : List Int := if k ∈ fk then fk else fk ++ [k]
theorem anyB (fk : List Int) (k : Int) : ((kvB fk).any fun kv => decide (kv.1 = (.inl k : Key))) = decide (k ∈ fk) := by
  induction fk with
  | nil => rfl
  | cons a fk ih =>
    show (decide ((.inl a : Key) = .inl k) || ((kvB fk).any fun kv => decide (kv.1 = (.inl k : Key)))) = _
    rw [ih]
    by_cases c : a = k
    · subst c
      rw [decide_eq_true (show ((.inl a : Key)) = .inl a from rfl), Bool.true_or]
      exact (decide_eq_true List.mem_cons_self).symm
    · rw [decide_eq_false (fun z => c (Sum.inl.inj z)), Bool.false_or, decide_eq_decide, List.mem_cons]
      exact ⟨.inr, fun z => z.elim (fun e => absurd e.symm c) id⟩
theorem putB (fk : List Int) (k : Int) : putK (kvB fk) (.inl k) (V.bl true) = kvB (addK fk k) := by
  unfold putK addK
  rw [anyB]
  by_cases c : k ∈ fk
  · rw [decide_eq_true c, if_pos rfl, if_pos c]
    show List.map _ (List.map _ fk) = List.map _ fk
    rw [List.map_map]
    refine List.map_congr_left fun x _ => ?_
    show (if (.inl x : Key) = .inl k then ((.inl x : Key), V.bl true) else ((.inl x : Key), V.bl true)) = ((.inl x : Key), V.bl true)
    split <;> rfl
  · rw [decide_eq_false c, if_neg (by decide), if_neg c]
    show _ = List.map _ _
    rw [List.map_append]
    rfl
theorem addK_mem {fk : List Int} {k p : Int} : p ∈ addK fk k ↔ p ∈ fk ∨ p = k := by
  unfold addK
  by_cases c : k ∈ fk
  · rw [if_pos c]
    exact ⟨.inl, fun z => z.elim id fun e => by rw [e]; exact c⟩
  · rw [if_neg c, List.mem_append, List.mem_singleton]
theorem addK_nd {fk : List Int} (h : fk.Nodup) (k : Int) : (addK fk k).Nodup := by
  unfold addK
  by_cases c : k ∈ fk
  · rw [if_pos c]
    exact h
  · rw [if_neg c]
    exact List.nodup_append.2 ⟨h, List.nodup_cons.2 ⟨by simp, List.nodup_nil⟩, fun a ha b hb e => by
      rw [List.mem_singleton.1 hb] at e
      rw [e] at ha
      exact c ha⟩
theorem addK_new {fk : List Int} {k : Int} (h : k ∉ fk) : addK fk k = fk ++ [k] := if_neg h
theorem nodup_all {xs ys : List Int} (nx : xs.Nodup) (sub : ∀ x ∈ xs, x ∈ ys) (l : ys.length ≤ xs.length) : ∀ y ∈ ys, y ∈ xs := fun y hy => by
  by_cases c : y ∈ xs
  · exact c
  · have := nodup_len (xs := y :: xs) (ys := ys) (List.nodup_cons.2 ⟨c, nx⟩) fun z hz => (by
      rcases List.mem_cons.1 hz with e | e
      · rw [e]; exact hy
      · exact sub z e)
    rw [List.length_cons] at this
    omega
theorem sorted_lt {ys : List Int} (h : ys.Pairwise (· ≤ ·)) (nd : ys.Nodup) : ys.Pairwise (· < ·) := by
  induction ys with
  | nil => exact .nil
  | cons a ys ih =>
    obtain ⟨h1, h2⟩ := List.pairwise_cons.1 h
    obtain ⟨n1, n2⟩ := List.nodup_cons.1 nd
    exact List.pairwise_cons.2 ⟨fun b hb => by
      have := h1 b hb
      have : a ≠ b := fun z => n1 (by rw [z]; exact hb)
      omega, ih h2 n2⟩
theorem lt_nodup {ys : List Int} (h : ys.Pairwise (· < ·)) : ys.Nodup := h.imp fun {a b} q z => by omega
def spMet : Sp := fun vs H Q _ => ∃ (m : Addr) (M : TM), vs = [.ref m] ∧ TMA H m M ∧ GoodT M ∧ ∀ (H' : Hp) (q : Addr) (ms : List Int), Same H H' → H q = none → H' q = some (.lst (ms.map V.int)) → ms.Pairwise (· < ·) → (∀ p, p ∈ ms ↔ Reach M p) → Q (.ref q) H'
section
variable {P : Program} {w : World} {K : PySem.W.Frag} {mg : Str → Option Value} {base : Heap} {A : Ads} {c Pt : Addr}
theorem ok_met (T : Txt K mg A) : FnOk P w K mg base CX0 2 A.a_met_states A.d_met_states ["machine"] spMet := by
  refine T.F_met_states.ok sc_met_states (fun vs H Q E h => ?_) (fun cdv Ar outer s H vs Q E hr h => ?_)
  · obtain ⟨_, _, rfl, _⟩ := h
    rfl
  · have G_kids_of := ok_kids (P := P) (w := w) (base := base) T
    have hr_kids_of : Room 1 (Ar.deeper (envOfC "_met_states" (C8.fnScope s_met_states) s.heap.objs.size A.a_met_states cdv)) := hr
    have G_entry_of := ok_entry (P := P) (w := w) (base := base) T
    have hr_entry_of := hr_kids_of
    refine ⟨_, (pss_cons (ps_asg (pv 0) (pg_tup rfl (pgs_cons (pg_name (i := 1) sc_met_states.nd rfl (Or.inl rfl)) (pgs_cons (pg_name (i := 2) sc_met_states.nd rfl (Or.inl rfl)) (pgs_cons (pg_name (i := 3) sc_met_states.nd rfl (Or.inl rfl)) (pgs_cons (pg_name (i := 4) sc_met_states.nd rfl (Or.inl rfl)) pgs_nil))))))
      (pss_cons (ps_set (i := 5) sc_met_states.nd rfl (Or.inl rfl) (pe_lst pa_nil))
      (pss_cons (ps_set (i := 6) sc_met_states.nd rfl (Or.inl rfl) pe_bl)
      (pss_cons (ps_while PassesOwn.never (pt_val (pv 6)) (pss_cons (ps_setDcK (i := 7) (own := [("state", 11)]) (g := (gName 11)) (tt := tYes) rfl rfl (sw_trueD rfl rfl rfl (by decide +kernel)) (hu_of hr) rfl sc_met_states.nd (pi_list (pv 5)) (blkOk_by (N := ["machine", "ranks", "_", "rules", "outputs", "met", "grown", "found", "rank", "rule", "kids", "state"]) (sc := defScope s_met_states) (by decide +kernel)) (fun _ _ _ _ _ => (pg_name (i := 11) sc_met_states.nd rfl (Or.inl rfl))) (fun _ _ _ _ _ => pts_nil) (fun _ _ _ _ _ => (pv 11)) (fun _ _ _ _ _ => pe_bl))
          (pss_cons (ps_for PassesOwn.never rfl (RZ.pi_zipA (by rfl) T.n_zip (pa_cons (pv 1) (pa_cons (pv 3) pa_nil))) (pg_tup rfl (pgs_cons (pg_name (i := 8) sc_met_states.nd rfl (Or.inl rfl)) (pgs_cons (pg_name (i := 9) sc_met_states.nd rfl (Or.inl rfl)) pgs_nil)))
            (pss_one (ps_for PassesOwn.never rfl (pi_list (pe_call G_kids_of hr_kids_of (by rfl) T.g_kids_of T.F_kids_of.kp T.b_kids_of .nil pass0 (pa_cons (pv 8) (pa_cons (pv 5) pa_nil)))) (pg_name (i := 10) sc_met_states.nd rfl (Or.inl rfl))
                (pss_one (ps_asg pe_bl (pg_sub (pv 7) (pe_ix (r := rIx K) ix_seq (pv 9) (pe_call G_entry_of hr_entry_of (by rfl) T.g_entry_of T.F_entry_of.kp T.b_entry_of .nil pass0 (pa_cons (pv 10) (pa_cons (pe_callB call_len_seq (by rfl) T.n_len PySem.boot_len (pa_cons (pv 4) pa_nil)) pa_nil))) (fun _ _ => rfl)) (set_dict (hu_of hr))))))))
          (pss_cons (ps_set (i := 6) sc_met_states.nd rfl (Or.inl rfl) (pe_cmpR op_gt (pe_callB call_lenD (by rfl) T.n_len PySem.boot_len (pa_cons (pv 7) pa_nil)) (pe_callB call_len_seq (by rfl) T.n_len PySem.boot_len (pa_cons (pv 5) pa_nil)) (nomark _)))
          (pss_one (ps_set (i := 5) sc_met_states.nd rfl (Or.inl rfl) (pe_callB (call_sortedDI rfl) (by rfl) T.n_sorted (by decide +kernel) (pa_cons (pv 7) pa_nil))))))))
      (pss_one (ps_ret (pv 5))))))), ?_⟩
    obtain ⟨m, M, rfl, hMA, g, fin⟩ := h
    obtain ⟨r, ru, ou, qs, hM⟩ := id hMA
    have n6 := g.n6
    have n1 := g.n1
    have inr : ∀ {xs : List Int}, xs.Nodup → (∀ p ∈ xs, Reach M p) → xs.length ≤ M.outs.length := fun nd h => in_range_len nd fun k hk => (h k hk).rg g
    refine ⟨_, rfl, m, _, rfl, SqT.of hM.top, rfl, _, _, rfl, _, _, rfl, _, _, rfl, _, _, rfl, rfl, ?_⟩
    refine ⟨Nat.zero_le _, fun q0 hq0 => ?_⟩
    have s0 := same_upd (o := .lst []) (Same.refl H) hq0
    have e0 : (upd H q0 (.lst [])) q0 = some (.lst (([] : List Int).map V.int)) := upd_same
    generalize upd H q0 (.lst []) = H0 at *
    refine ⟨fun k σ H' => ∃ (q : Addr) (ms : List Int) (gr : Bool) (v2 v7 v8 v9 v10 : Option V), k = 2 * (M.outs.length - ms.length) + (if gr = true then 1 else 0) ∧ σ = [some (.ref m), some (.ref r), v2, some (.ref ru), some (.ref ou), some (.ref q), some (.bl gr), v7, v8, v9, v10, none] ∧ Same H H' ∧ H q = none ∧ H' q = some (.lst (ms.map V.int)) ∧ ms.Pairwise (· < ·) ∧ (∀ p ∈ ms, Reach M p) ∧
        (gr = false → ∀ s ks, KR M (· ∈ ms) s ks → M.to s ks ∈ ms), ⟨_, q0, [], true, _, none, none, none, none, rfl, rfl, s0, hq0, e0, .nil, (fun p hp => by cases hp), fun z => by cases z⟩, ?_⟩
    rintro k σ H1 ⟨q, ms, gr, v2, v7, v8, v9, v10, rfl, rfl, s1, fq, e1, srt, rch, cl⟩
    have ndm := lt_nodup srt
    have lm := inr ndm rch
    refine ⟨_, rfl, ?_⟩
    refine ⟨gr, rfl, ?_⟩
    cases gr with
    | false =>
      refine ifDF rfl ?_
      refine ⟨_, rfl, fin H1 q ms s1 fq e1 srt fun p => ⟨rch p, fun h => ?_⟩⟩
      induction h with
      | mk s ks hs hl _ ih => exact cl rfl s ks ⟨hs, hl, ih⟩
    | true =>
      refine ifDT rfl ?_
      refine ⟨fun σ' H' => ∃ (q' : Addr) (ms' : List Int) (gr' : Bool) (v2 v7 v8 v9 v10 : Option V), (gr' = true → ms.length < ms'.length) ∧ ms.length ≤ ms'.length ∧ σ' = [some (.ref m), some (.ref r), v2, some (.ref ru), some (.ref ou), some (.ref q'), some (.bl gr'), v7, v8, v9, v10, none] ∧ Same H H' ∧ H q' = none ∧ H' q' = some (.lst (ms'.map V.int)) ∧ ms'.Pairwise (· < ·) ∧ (∀ p ∈ ms', Reach M p) ∧
        (gr' = false → ∀ s ks, KR M (· ∈ ms') s ks → M.to s ks ∈ ms'), fun σ' H' ⟨q', ms', gr', w2, w7, w8, w9, w10, l1, l2, e, s', f', e', so, re, c'⟩ => ⟨_, ?_, q', ms', gr', w2, w7, w8, w9, w10, rfl, e, s', f', e', so, re, c'⟩, ?_⟩
      · have := inr (lt_nodup so) re
        cases gr' with
        | true =>
          have := l1 rfl
          rw [if_pos rfl]
          omega
        | false =>
          rw [if_pos rfl, if_neg (by decide)]
          omega
      refine ⟨_, rfl, q, rfl, ⟨_, SqL.of e1⟩, fun d hd => ?_⟩
      refine dc_it walk_list (fun i H' => H' = upd H1 d (.dK (kvB (ms.take i)))) rfl (fun i H' _ e => by rw [e]; exact SqL.of (same_upd (Same.refl _) hd _ _ e1)) ?_ ?_
      · rintro i y H2 H2' hi rfl ⟨rfl, hy⟩
        obtain ⟨p, hp, rfl⟩ := ofV hy
        refine ⟨rfl, ?_⟩
        refine ⟨_, rfl, kvB (ms.take i), .inl p, rfl, upd_same, Nat.lt_of_le_of_lt (by rw [List.length_map, List.length_take]; omega : _ ≤ 6) (by decide), ?_⟩
        have nin : p ∉ ms.take i := fun z => by
          obtain ⟨j, hj⟩ := List.mem_iff_getElem?.1 z
          rw [List.getElem?_take] at hj
          by_cases cj : j < i
          · rw [if_pos cj] at hj
            have := (List.getElem?_inj (List.getElem?_eq_some_iff.1 hp).1 ndm).1 (hp.trans hj.symm)
            omega
          · rw [if_neg cj] at hj
            cases hj
        rw [upd_upd, putB, addK_new nin, take_more hp]
      · rintro H2 rfl
        rw [List.length_map, List.take_length]
        have s2 := same_upd (o := .dK (kvB ms)) s1 hd
        have fd : H d = none := s1.free hd
        have ed : (upd H1 d (.dK (kvB ms))) d = some (.dK (kvB ms)) := upd_same
        have e2 := same_upd (o := .dK (kvB ms)) (Same.refl H1) hd _ _ e1
        generalize upd H1 d (.dK (kvB ms)) = H2 at *
        have hM2 := hM.same s2
        refine ⟨_, rfl, _, rfl, r, ru, _, _, rfl, .inr ⟨rd_t hM2.rs, SqT.of hM2.ru, RZ.for_zipT (K := K) (a := r) (b := ru) (xs := M.rs.map V.int) (ys := qs.map V.ref) (by rw [List.length_map, List.length_map, hM.len, g.rl])
          (fun i σ H' => ∃ (v8 v9 v10 : Option V) (fk : List Int), σ = [some (.ref m), some (.ref r), v2, some (.ref ru), some (.ref ou), some (.ref q), some (.bl true), some (.ref d), v8, v9, v10, none] ∧ Same H H' ∧ Kq d H2 H' ∧ H' d = some (.dK (kvB fk)) ∧ fk.Nodup ∧ (∀ p ∈ ms, p ∈ fk) ∧ (∀ p ∈ fk, Reach M p) ∧ ∀ s ks, s < i → KR M (· ∈ ms) s ks → M.to s ks ∈ fk)
          ⟨v8, v9, v10, ms, rfl, s2, Kq.refl, ed, ndm, fun p hp => hp, rch, fun s ks h => absurd h (Nat.not_lt_zero s)⟩ (fun i σ H' ⟨_, _, _, _, _, s, _⟩ => ⟨rd_t (rd_same s hM.rs), SqT.of (s _ _ hM.ru)⟩) ?_ ?_⟩⟩
        · rintro i x y Tt σ H3 hx hy ⟨v8, v9, v10, fk, rfl, s3, k3, e3, ndf, sub, rf, clo⟩ hTt
          obtain ⟨rk, hrank, rfl⟩ := ofV hx
          obtain ⟨rq, hq, rfl⟩ := ofV hy
          have il := (List.getElem?_eq_some_iff.mp hrank).1
          have rkE : M.rank (i : Int) = rk := by
            have := rank_at il
            rw [hrank] at this
            exact (Option.some.inj this).symm
          obtain ⟨rk0, rk3⟩ := rank_rg g il
          rw [rkE] at rk0 rk3
          have sT := same_upd (o := .tup [.int rk, .ref rq]) (Same.refl H3) hTt
          have eT : (upd H3 Tt (.tup [.int rk, .ref rq])) Tt = some (.tup [.int rk, .ref rq]) := upd_same
          have s4 := s3.trans sT
          have k4 := k3.trans (Kq.of sT)
          have e4 := sT _ _ e3
          generalize upd H3 Tt (.tup [.int rk, .ref rq]) = H4 at *
          have qd : q ≠ d := fun z => by rw [z, ed] at e2; cases e2
          refine ⟨Tt, _, rfl, SqT.of eT, rfl, _, _, rfl, _, _, rfl, rfl, ?_⟩
          refine ⟨_, rfl, _, rfl, q, ms, rk.toNat, by rw [Int.toNat_of_nonneg rk0]; rfl, SqL.of (k4 _ _ qd e2), by omega, by omega, fun H5 ql ts s5 nq eq rel => ?_⟩
          have e5 := s5 _ _ e4
          have qld : ql ≠ d := fun z => by rw [z, e4] at nq; cases nq
          refine ⟨ql, rfl, ⟨_, SqL.of eq⟩, ?_⟩
          refine for_it (walk_list (xs := ts.map V.ref)) (fun j σ H' => ∃ (v10 : Option V) (fk : List Int), σ = [some (.ref m), some (.ref r), v2, some (.ref ru), some (.ref ou), some (.ref q), some (.bl true), some (.ref d), some (.int rk), some (.ref rq), v10, none] ∧ Same H H' ∧ Kq d H5 H' ∧ H' d = some (.dK (kvB fk)) ∧ fk.Nodup ∧ (∀ p ∈ ms, p ∈ fk) ∧ (∀ p ∈ fk, Reach M p) ∧ (∀ s ks, s < i → KR M (· ∈ ms) s ks → M.to s ks ∈ fk) ∧ ∀ ks ∈ (kidsL rk.toNat ms).take j, M.to i ks ∈ fk)
            ⟨v10, fk, rfl, s4.trans s5, Kq.refl, e5, ndf, sub, rf, clo, fun ks h => by rw [List.take_zero] at h; cases h⟩ (fun j σ H' _ ⟨_, _, _, _, k, _⟩ => SqL.of (k _ _ qld eq)) ?_ ?_
          · rintro j y σ H6x H6 hj ⟨v10, fk, rfl, s6, k6, e6, ndf, sub, rf, clo, dn⟩ ⟨rfl, hy⟩
            obtain ⟨tj, htj, rfl⟩ := ofV hy
            obtain ⟨ks, eks, hks⟩ := rel.to htj
            have hks : H5 tj = some (.tup (ks.map V.int)) := hks
            have hks6 := k6 _ _ (fun z => by rw [z, e5] at hks; cases hks) hks
            have mem := (kidsL_mem ms rk.toNat ks).1 (List.mem_of_getElem? eks)
            have kr : KR M (Rg M) i ks := ⟨il, by rw [rkE]; exact mem.1, fun k hk => (rch k (mem.2 k hk)).rg g⟩
            have hM6 := hM.same s6
            obtain ⟨er, p0, ep, t0, t1⟩ := entry_at g (s := (i : Int)) (by omega) (by omega) kr.dom kr.len
            have hrow := hM6.row i _ _ hq er
            refine ⟨_, rfl, _, rfl, _, rfl, ⟨_, rfl, ou, _, rfl, .inr (SqT.of hM6.ou), ?_⟩⟩
            have plE : placeN ((M.outs.map V.int).length : Nat) 0 ks = plc M.n ks := by
              rw [placeN_plc, List.length_map]
              rfl
            refine ⟨tj, ks, _, rfl, SqT.of hks6, by rw [mem.1]; omega, by omega, by rw [List.length_map]; omega, fun k hk => ⟨(kr.dom k hk).1, by have := (kr.dom k hk).2; have e : M.n = (M.outs.length : Int) := rfl; omega⟩, ?_⟩
            rw [plE]
            refine .inr (.inl ⟨_, _, _, _, rfl, rfl, SqT.of hrow, atI_get? p0 ep, ?_⟩)
            have lf := inr ndf rf
            refine ⟨d, _, rfl, DPut.k (k := .inl (M.to i ks)) e6 (Nat.lt_of_le_of_lt (by rw [List.length_map]; omega : _ ≤ 6) (by decide)), ?_⟩
            rw [putB]
            have rt : Reach M (M.to i ks) := .mk i ks il (by rw [rkE]; exact mem.1) fun k hk => rch k (mem.2 k hk)
            refine ⟨some (.ref tj), addK fk (M.to i ks), rfl, same_set s6 fd, k6.trans Kq.set, upd_same, addK_nd ndf _, fun p hp => addK_mem.2 (.inl (sub p hp)), fun p hp => ?_, fun s ks' h1 h2 => addK_mem.2 (.inl (clo s ks' h1 h2)), fun ks' h => ?_⟩
            · rcases addK_mem.1 hp with z | z
              · exact rf p z
              · rw [z]; exact rt
            · rw [take_more eks] at h
              rcases List.mem_append.1 h with z | z
              · exact addK_mem.2 (.inl (dn ks' z))
              · rw [List.mem_singleton.1 z]
                exact addK_mem.2 (.inr rfl)
          · rintro σ H6 ⟨v10, fk, rfl, s6, k6, e6, ndf, sub, rf, clo, dn⟩
            rw [List.length_map, rel.1, List.take_length] at dn
            have k26 : Kq d H2 H6 := (k4.trans (Kq.of s5)).trans k6
            refine ⟨_, _, _, fk, rfl, s6, k26, e6, ndf, sub, rf, fun s ks h hk => ?_⟩
            rcases Nat.lt_succ_iff_lt_or_eq.1 h with z | z
            · exact clo s ks z hk
            · subst z
              exact dn ks ((kidsL_mem _ _ _).2 ⟨by rw [hk.len, rkE], hk.dom⟩)
        · rintro σ H3 ⟨v8, v9, v10, fk, rfl, s3, k3, e3, ndf, sub, rf, clo⟩
          have qd : q ≠ d := fun z => by rw [z, ed] at e2; cases e2
          have lf := inr ndf rf
          have e3q := k3 _ _ qd e2
          have lmf := nodup_len ndm sub
          refine ⟨_, rfl, d, _, rfl, e3, _, rfl, q, _, rfl, .inl (SqL.of e3q), ?_⟩
          refine ⟨_, _, rfl, rfl, ?_⟩
          refine ⟨_, rfl, d, kvB fk, fk, rfl, .inl e3, by rw [List.map_map]; rfl, by omega, fun ys p' pm so hp' => ?_⟩
          have s4 := same_upd (o := .lst (ys.map V.int)) s3 hp'
          have ndy : ys.Nodup := pm.nodup_iff.2 ndf
          have ly : ys.length = fk.length := pm.length_eq
          have my : ∀ p, p ∈ ys ↔ p ∈ fk := fun p => pm.mem_iff
          have lk : (kvB fk).length = fk.length := List.length_map ..
          have lq : (ms.map V.int).length = ms.length := List.length_map ..
          refine ⟨p', ys, decide (((ms.map V.int).length : Int) < ((kvB fk).length : Int)), v2, some (.ref d), v8, v9, v10, fun z => ?_, by omega, rfl, s4, s3.free hp', upd_same, sorted_lt so ndy, fun p hp => rf p ((my p).1 hp), fun z s ks hk => ?_⟩
          · have := of_decide_eq_true z
            rw [lk, lq] at this
            omega
          · have := of_decide_eq_false z
            rw [lk, lq] at this
            have back := nodup_all ndm sub (by omega)
            rw [my]
            exact clo s ks (by have := hk.lt; rw [show (M.rs.map V.int).length = M.rs.length from List.length_map ..] ; exact this) ⟨hk.lt, hk.len, fun k h => back k ((my k).1 (hk.dom k h))⟩
end
end K63

set_option Elab.async false
set_option linter.all false
set_option maxRecDepth 100000
set_option maxHeartbeats 4000000
namespace K63
open PySem PySem.Spec PyProof.Rows L2 Mz
def rowK (M : TM) (ss : List Int) (num : Int → Int) (s : Nat) : List Int := (kidsL (M.rank (s : Int)).toNat ss).map fun ks => num (M.to s ks)
def spKept (K : PySem.W.Frag) : Sp := fun vs H Q _ => ∃ (m a d : Addr) (M : TM) (ss : List Int) (kvs : List (Key × V)) (num : Int → Int), vs = [.ref m, .ref a, .ref d] ∧ TMA H m M ∧ GoodT M ∧ SqL K H a (ss.map V.int) ∧ ss.length ≤ 6 ∧ (∀ p ∈ ss, Rg M p) ∧ H d = some (.dK kvs) ∧
  (∀ s ks, KR M (· ∈ ss) s ks → valV kvs (.inl (M.to s ks)) = some (.int (num (M.to s ks)))) ∧ ∀ (H' : Hp) (m' : Addr), Same H H' → TMA H' m' (keptM M ss num) → Q (.ref m') H'
section
variable {P : Program} {w : World} {K : PySem.W.Frag} {mg : Str → Option Value} {base : Heap} {A : Ads} {c Pt : Addr}
theorem ok_kept (T : Txt K mg A) : FnOk P w K mg base CX0 2 A.a_kept A.d_kept ["machine", "states", "numbers"] (spKept K) := by
  refine T.F_kept.ok sc_kept (fun vs H Q E h => ?_) (fun cdv Ar outer s H vs Q E hr h => ?_)
  · obtain ⟨_, _, _, _, _, _, _, rfl, _⟩ := h
    rfl
  · have G_kids_of := ok_kids (P := P) (w := w) (base := base) T
    have hr_kids_of : Room 1 (Ar.deeper (envOfC "_kept" (C8.fnScope s_kept) s.heap.objs.size A.a_kept cdv)) := hr
    have G_entry_of := ok_entry (P := P) (w := w) (base := base) T
    have hr_entry_of := hr_kids_of
    refine ⟨_, (pss_cons (ps_asg (pv 0) (pg_tup rfl (pgs_cons (pg_name (i := 3) sc_kept.nd rfl (Or.inl rfl)) (pgs_cons (pg_name (i := 4) sc_kept.nd rfl (Or.inl rfl)) (pgs_cons (pg_name (i := 5) sc_kept.nd rfl (Or.inl rfl)) (pgs_cons (pg_name (i := 6) sc_kept.nd rfl (Or.inr rfl)) pgs_nil))))))
      (pss_cons (ps_set (i := 7) sc_kept.nd rfl (Or.inl rfl) (pe_lst pa_nil))
      (pss_cons (ps_for PassesOwn.never rfl (RZ.pi_zipA (by rfl) T.n_zip (pa_cons (pv 3) (pa_cons (pv 5) pa_nil))) (pg_tup rfl (pgs_cons (pg_name (i := 8) sc_kept.nd rfl (Or.inl rfl)) (pgs_cons (pg_name (i := 9) sc_kept.nd rfl (Or.inr rfl)) pgs_nil)))
        (pss_one (ps_expr (pe_bm PySem.F.plainAttrs_list PySem.F.slot_list_append PySem.F.type_list_append mt_append (pv 7) (pa_cons (pe_callTy call_tuple_of (by rfl) T.n_tuple (by decide +kernel) (pa_cons (pe_lc (own := [("kids", 11)]) (g := (gName 11)) (tt := tYes) rfl sc_kept.nd (pi_list (pe_call G_kids_of hr_kids_of (by rfl) T.g_kids_of T.F_kids_of.kp T.b_kids_of .nil pass0 (pa_cons (pv 8) (pa_cons (pv 1) pa_nil)))) (blkOk_by (N := ["machine", "states", "numbers", "ranks", "outs", "rules", "outputs", "kept", "rank", "rule", "state", "kids"]) (sc := defScope s_kept) (by decide +kernel)) (fun _ _ _ _ _ => (pg_name (i := 11) sc_kept.nd rfl (Or.inl rfl))) (fun _ _ _ _ _ => pts_nil) (fun _ _ _ _ _ => (pe_dget (hu_of hr) (pv 2) (pe_ix (r := rIx K) ix_seq (pv 9) (pe_call G_entry_of hr_entry_of (by rfl) T.g_entry_of T.F_entry_of.kp T.b_entry_of .nil pass0 (pa_cons (pv 11) (pa_cons (pe_callB (r := rLenC K) call_lenC (by rfl) T.n_len PySem.boot_len (pa_cons (pv 6) pa_nil)) pa_nil))) (fun _ _ => rfl)) (fun _ _ => rfl)))) pa_nil)) pa_nil)))))
      (pss_one (ps_ret (pe_tup (pa_cons (pv 3) (pa_cons (pv 4) (pa_cons (pe_callTy call_tuple_of (by rfl) T.n_tuple (by decide +kernel) (pa_cons (pv 7) pa_nil)) (pa_cons (pe_callTy call_tuple_of (by rfl) T.n_tuple (by decide +kernel) (pa_cons (pe_lc (own := [("state", 10)]) (g := (gName 10)) (tt := tYes) rfl sc_kept.nd (pi_list (pv 1)) (blkOk_by (N := ["machine", "states", "numbers", "ranks", "outs", "rules", "outputs", "kept", "rank", "rule", "state", "kids"]) (sc := defScope s_kept) (by decide +kernel)) (fun _ _ _ _ _ => (pg_name (i := 10) sc_kept.nd rfl (Or.inl rfl))) (fun _ _ _ _ _ => pts_nil) (fun _ _ _ _ _ => (pe_ix (r := rIx K) ix_seq (pv 6) (pv 10) (fun _ _ => rfl)))) pa_nil)) pa_nil)))))))))), ?_⟩
    obtain ⟨m, a, d, M, ss, kvs, num, rfl, hMA, g, hS, l6, hrg, hd, hnum, fin⟩ := h
    obtain ⟨r, ru, ou, qs, hM⟩ := id hMA
    have n6 := g.n6
    have n1 := g.n1
    have lo : (M.outs.map V.int).length = M.outs.length := List.length_map ..
    refine ⟨_, rfl, m, _, rfl, SqT.of hM.top, rfl, _, _, rfl, _, _, rfl, _, _, rfl, _, _, rfl, rfl, ?_⟩
    refine ⟨Nat.zero_le _, fun kl hkl => ?_⟩
    have s0 := same_upd (o := .lst []) (Same.refl H) hkl
    have e0 : (upd H kl (.lst [])) kl = some (.lst (([] : List Addr).map V.ref)) := upd_same
    generalize upd H kl (.lst []) = H0 at *
    have hM0 := hM.same s0
    refine ⟨_, rfl, _, rfl, r, ru, _, _, rfl, .inr ⟨rd_t hM0.rs, SqT.of hM0.ru, RZ.for_zipT (K := K) (a := r) (b := ru) (xs := M.rs.map V.int) (ys := qs.map V.ref) (by rw [List.length_map, List.length_map, hM.len, g.rl])
      (fun i σ H' => ∃ (v8 v9 : Option V) (ts : List Addr), σ = [some (.ref m), some (.ref a), some (.ref d), some (.ref r), some (.int M.os), some (.ref ru), some (.ref ou), some (.ref kl), v8, v9, none, none] ∧ Same H H' ∧ H' kl = some (.lst (ts.map V.ref)) ∧ Rel IT H' ts ((List.range i).map (rowK M ss num)))
      ⟨none, none, [], rfl, s0, e0, Rel.nil⟩ (fun i σ H' ⟨_, _, _, _, s, _⟩ => ⟨rd_t (rd_same s hM.rs), SqT.of (s _ _ hM.ru)⟩) ?_ ?_⟩⟩
    · rintro i x y Tt σ H1 hx hy ⟨v8, v9, ts, rfl, s1, e1, r1⟩ hTt
      obtain ⟨rk, hrank, rfl⟩ := ofV hx
      obtain ⟨rq, hq, rfl⟩ := ofV hy
      have il := (List.getElem?_eq_some_iff.mp hrank).1
      have rkE : M.rank (i : Int) = rk := by
        have := rank_at il
        rw [hrank] at this
        exact (Option.some.inj this).symm
      obtain ⟨rk0, rk3⟩ := rank_rg g il
      rw [rkE] at rk0 rk3
      have sT := same_upd (o := .tup [.int rk, .ref rq]) (Same.refl H1) hTt
      have eT : (upd H1 Tt (.tup [.int rk, .ref rq])) Tt = some (.tup [.int rk, .ref rq]) := upd_same
      have s2 := s1.trans sT
      have e2 := sT _ _ e1
      have r2 : Rel IT (upd H1 Tt (.tup [.int rk, .ref rq])) ts ((List.range i).map (rowK M ss num)) := Rel.imp r1 fun t x h => sT _ _ h
      generalize upd H1 Tt (.tup [.int rk, .ref rq]) = H2 at *
      refine ⟨Tt, _, rfl, SqT.of eT, rfl, _, _, rfl, _, _, rfl, rfl, ?_⟩
      refine ⟨_, rfl, .inl ⟨rfl, _, SqL.of e2⟩, ?_⟩
      refine ⟨_, rfl, _, rfl, a, ss, rk.toNat, by rw [Int.toNat_of_nonneg rk0]; rfl, s2.seq hS, l6, by omega, fun H3 ql tk s3 nq eq rel => ?_⟩
      have e3 := s3 _ _ e2
      have r3 : Rel IT H3 ts ((List.range i).map (rowK M ss num)) := Rel.imp r2 fun t x h => s3 _ _ h
      have s03 := s2.trans s3
      have lk := kidsL_len ss l6 rk.toNat (by omega)
      have lk6 : 6 ^ rk.toNat ≤ 6 ^ 2 := Nat.pow_le_pow_right (by decide) (by omega)
      refine ⟨ql, rfl, ⟨_, SqL.of eq⟩, fun D hD => ?_⟩
      have sD : ∀ u : HO, Same H3 (upd H3 D u) := fun u => same_upd (Same.refl _) hD
      refine lc_it walk_list (fun j H' => H' = upd H3 D (.lst ((((kidsL rk.toNat ss).take j).map fun ks => num (M.to i ks)).map V.int))) rfl (fun j H' _ e => by rw [e]; exact SqL.of (sD _ _ _ eq)) ?_ ?_
      · rintro j y H4x H4 hj rfl ⟨rfl, hy⟩
        obtain ⟨tj, htj, rfl⟩ := ofV hy
        obtain ⟨ks, eks, hks⟩ := rel.to htj
        have hks : H3 tj = some (.tup (ks.map V.int)) := hks
        have mem := (kidsL_mem ss rk.toNat ks).1 (List.mem_of_getElem? eks)
        have kr : KR M (Rg M) i ks := ⟨il, by rw [rkE]; exact mem.1, fun k hk => hrg k (mem.2 k hk)⟩
        have nm := hnum i ks ⟨il, by rw [rkE]; exact mem.1, mem.2⟩
        have s4 := s03.trans (sD (.lst ((((kidsL rk.toNat ss).take j).map fun ks => num (M.to i ks)).map V.int)))
        have hM4 := hM.same s4
        obtain ⟨er, p0, ep, t0, t1⟩ := entry_at g (s := (i : Int)) (by omega) (by omega) kr.dom kr.len
        have hrow := hM4.row i _ _ hq er
        refine ⟨rfl, ?_⟩
        refine ⟨_, rfl, _, rfl, _, rfl, ⟨_, rfl, ou, _, rfl, .inr (SqT.of hM4.ou), ?_⟩⟩
        have plE : placeN ((M.outs.map V.int).length : Nat) 0 ks = plc M.n ks := by
          rw [placeN_plc, List.length_map]
          rfl
        refine ⟨tj, ks, _, rfl, SqT.of (sD _ _ _ hks), by rw [mem.1]; omega, by omega, by rw [List.length_map]; omega, fun k hk => ⟨(kr.dom k hk).1, by have := (kr.dom k hk).2; have e : M.n = (M.outs.length : Int) := rfl; omega⟩, ?_⟩
        rw [plE]
        refine .inr (.inl ⟨_, _, _, _, rfl, rfl, SqT.of hrow, atI_get? p0 ep, ?_⟩)
        have dg := DGet.k (k := .inl (M.to i ks)) (s4 _ _ hd)
        rw [nm] at dg
        refine ⟨d, _, rfl, dg, _, upd_same, Nat.lt_of_le_of_lt (by rw [List.length_map, List.length_map, List.length_take]; omega : _ ≤ 36) (by decide), ?_⟩
        rw [upd_upd, take_more eks, List.map_append, List.map_append]
        rfl
      · rintro H4 rfl
        have ej : ((((kidsL rk.toNat ss).take (tk.map V.ref).length).map fun ks => num (M.to i ks))) = rowK M ss num i := by
          rw [List.length_map, rel.1, List.take_length]
          unfold rowK
          rw [rkE]
        rw [ej]
        have e4 : (upd H3 D (.lst ((rowK M ss num i).map V.int))) D = some (.lst ((rowK M ss num i).map V.int)) := upd_same
        have s4 := sD (.lst ((rowK M ss num i).map V.int))
        generalize upd H3 D (.lst ((rowK M ss num i).map V.int)) = H4 at *
        refine ⟨D, _, rfl, .inl ⟨SqL.of e4, fun tr htr => ?_⟩⟩
        have s5 := same_upd (o := .tup ((rowK M ss num i).map V.int)) (Same.refl H4) htr
        have e5 : (upd H4 tr (.tup ((rowK M ss num i).map V.int))) tr = some (.tup ((rowK M ss num i).map V.int)) := upd_same
        generalize upd H4 tr (.tup ((rowK M ss num i).map V.int)) = H5 at *
        have s35 := s4.trans s5
        have k5 := s35 _ _ e3
        obtain ⟨_, m5, _, _⟩ := ranks_iff.mp g.rk
        refine ⟨kl, _, _, rfl, rfl, k5, Nat.lt_of_le_of_lt (by rw [List.length_map, r3.1, List.length_map, List.length_range]; omega : _ ≤ 5) (by decide), ?_⟩
        have nk : ∀ {t : Addr} {w : List Int}, IT H5 t w → IT (upd H5 kl (.lst (ts.map V.ref ++ [.ref tr]))) t w := fun {t w} h => (upd_ne fun z => by
          have h : H5 t = some (.tup (w.map V.int)) := h
          rw [z, k5] at h
          cases h).trans h
        refine ⟨_, _, ts ++ [tr], rfl, same_set (s03.trans s35) hkl, by rw [upd_same, List.map_append]; rfl, ?_⟩
        rw [List.range_succ, List.map_append]
        exact Rel.push (Rel.imp r3 fun t x h => nk (s35 _ _ h)) (nk e5)
    · rintro σ H1 ⟨v8, v9, ts, rfl, s1, e1, r1⟩
      rw [List.length_map] at r1
      refine ⟨_, rfl, _, rfl, ?_⟩
      refine ⟨_, rfl, kl, _, rfl, .inl ⟨SqL.of e1, fun tr htr => ?_⟩⟩
      have s2 := same_upd (o := .tup (ts.map V.ref)) (Same.refl H1) htr
      have e2 : (upd H1 tr (.tup (ts.map V.ref))) tr = some (.tup (ts.map V.ref)) := upd_same
      generalize upd H1 tr (.tup (ts.map V.ref)) = H2 at *
      have s02 := s1.trans s2
      refine ⟨_, rfl, a, rfl, ⟨_, s02.seq hS⟩, fun D hD => ?_⟩
      have sD : ∀ u : HO, Same H2 (upd H2 D u) := fun u => same_upd (Same.refl _) hD
      refine lc_it walk_list (fun j H' => H' = upd H2 D (.lst (((ss.take j).map (outO M)).map V.int))) rfl (fun j H' _ e => by rw [e]; exact (s02.trans (sD _)).seq hS) ?_ ?_
      · rintro j y H4x H4 hj rfl ⟨rfl, hy⟩
        obtain ⟨p, hp, rfl⟩ := ofV hy
        obtain ⟨p0, p1⟩ := hrg p (List.mem_of_getElem? hp)
        have hM4 := hM.same (s02.trans (sD (.lst (((ss.take j).map (outO M)).map V.int))))
        have pa : atI (M.outs.map V.int) p = some (.int (outO M p)) := atI_get? p0 (by
          have : p.toNat < M.outs.length := by have e : M.n = (M.outs.length : Int) := rfl; omega
          unfold outO
          rw [List.getD_eq_getElem?_getD, List.getElem?_eq_getElem this]
          rfl)
        refine ⟨rfl, _, rfl, _, rfl, .inr (.inl ⟨ou, _, _, _, rfl, rfl, SqT.of hM4.ou, pa, _, upd_same, Nat.lt_of_le_of_lt (by rw [List.length_map, List.length_map, List.length_take]; omega : _ ≤ 6) (by decide), ?_⟩)⟩
        rw [upd_upd, take_more hp, List.map_append, List.map_append]
        rfl
      · rintro H4 rfl
        rw [List.length_map, List.take_length]
        have e4 : (upd H2 D (.lst ((ss.map (outO M)).map V.int))) D = some (.lst ((ss.map (outO M)).map V.int)) := upd_same
        have s4 := sD (.lst ((ss.map (outO M)).map V.int))
        generalize upd H2 D (.lst ((ss.map (outO M)).map V.int)) = H4 at *
        refine ⟨D, _, rfl, .inl ⟨SqL.of e4, fun to hto => ?_⟩⟩
        have s5 := same_upd (o := .tup ((ss.map (outO M)).map V.int)) (Same.refl H4) hto
        have e5 : (upd H4 to (.tup ((ss.map (outO M)).map V.int))) to = some (.tup ((ss.map (outO M)).map V.int)) := upd_same
        generalize upd H4 to (.tup ((ss.map (outO M)).map V.int)) = H5 at *
        refine ⟨(by show 4 ≤ sizeLine; decide), fun mm hmm => ?_⟩
        have s6 := same_upd (o := .tup [.ref r, .int M.os, .ref tr, .ref to]) (Same.refl H5) hmm
        have s26 := (s4.trans s5).trans s6
        refine fin _ mm (s02.trans s26) ⟨r, tr, to, ts, upd_same, rd_same (s02.trans s26) hM.rs, s26 _ _ e2, s6 _ _ e5, ?_, fun i q w h1 h2 => ?_⟩
        · show ts.length = ((List.range M.rs.length).map _).length
          rw [r1.1, List.length_map, List.length_map]
        · exact (s2.trans s26) _ _ (r1.2 i q w h1 h2)
end
end K63

set_option Elab.async false
set_option linter.all false
set_option maxRecDepth 100000
set_option maxHeartbeats 4000000
namespace K63
open PySem PySem.Spec PyProof.Rows L2 Mz
def firsts {α : Type} [DecidableEq α] (l : List α) : List Int := l.map (fi l)
/-- the marks: ints, or pairs of an int and ints -/
inductive Marks (K : PySem.W.Frag) (H : Hp) (a : Addr) : List V → List Int → Prop where
  | mi (ns : List Int) : (SqL K H a (ns.map V.int) ∨ SqT K H a (ns.map V.int)) → Marks K H a (ns.map V.int) (firsts ns)
  | mp (as : List Addr) (ps : List PK) : SqL K H a (as.map V.ref) → Paired (fun b p => KeyAt H b p) as ps → Marks K H a (as.map V.ref) (firsts ps)
def spPlaces (K : PySem.W.Frag) : Sp := fun vs H Q _ => ∃ (a : Addr) (xs : List V) (fs : List Int), vs = [.ref a] ∧ Marks K H a xs fs ∧ xs.length ≤ 1000 ∧ ∀ (H' : Hp) (p : Addr), Same H H' → H p = none → H' p = some (.lst (fs.map V.int)) → Q (.ref p) H'
section
variable {P : Program} {w : World} {K : PySem.W.Frag} {mg : Str → Option Value} {base : Heap} {A : Ads}
theorem ok_places (T : Txt K mg A) : FnOk P w K mg base CX0 1 A.a_first_places A.d_first_places ["marks"] (spPlaces K) := by
  refine T.F_first_places.ok sc_first_places (fun vs H Q E h => ?_) (fun cdv Ar outer s H vs Q E hr h => ?_)
  · obtain ⟨_, _, _, rfl, _⟩ := h
    rfl
  · obtain ⟨a, xs, fs, rfl, hm, few, fin⟩ := h
    refine ⟨_, (pss_cons (ps_set (i := 1) sc_first_places.nd rfl (Or.inr rfl) pe_dnewKN)
      (pss_cons (ps_for PassesOwn.never rfl (pi_enumT (by rfl) T.n_enumerate (pa_cons (pv 0) pa_nil)) (pg_tup rfl (pgs_cons (pg_name (i := 2) sc_first_places.nd rfl (Or.inl rfl)) (pgs_cons (pg_name (i := 3) sc_first_places.nd rfl (Or.inl rfl)) pgs_nil)))
        (pss_one (ps_expr (pe_dsetKN (hu10 hr) (pv 1) (pv 3) (pv 2) ⟨rfl, rfl, rfl, rfl⟩))))
      (pss_one (ps_ret (pe_lc (own := [("mark", 3)]) (g := (gName 3)) (tt := tYes) rfl sc_first_places.nd (pi_lt (pv 0)) (blkOk_by (N := ["marks", "first", "place", "mark"]) (sc := defScope s_first_places) (by decide +kernel)) (fun _ _ _ _ _ => (pg_name (i := 3) sc_first_places.nd rfl (Or.inl rfl))) (fun _ _ _ _ _ => pts_nil) (fun _ _ _ _ _ => (pe_dgetKN2 (P := P) (w := w) rfl rfl (hu10 hr) (pv 1) (pv 3) (fun _ _ => rfl)))))))), ?_⟩
    cases hm with
    | mi ns hS =>
     rcases hS with hS | hS
     ·
      have hSx : ∀ {H' : Hp}, Same H H' → SqL K H' a (ns.map V.int) := fun s => s.seq hS
      refine .inl fun d hd => ?_
      have s1 := same_upd (o := .dK []) (Same.refl H) hd
      refine ⟨_, rfl, a, rfl, .inl ⟨⟨_, hSx s1⟩, ?_⟩⟩
      refine for_it (walk_enum (xs := ns.map V.int)) (fun i σ H' => ∃ (kvs : List (L2.Key × V)) (v2 v3 : Option V), σ = [some (.ref a), some (.ref d), v2, v3] ∧ Same H H' ∧ H' d = some (.dK kvs) ∧ kvs.length ≤ i ∧ ∀ n : Int, valV kvs (.inl n) = if n ∈ ns.take i then some (.int (fi ns n)) else none)
        ⟨[], none, none, rfl, s1, upd_same, Nat.le_refl _, fun n => rfl⟩ (fun i σ H' _ ⟨_, _, _, _, s, _⟩ => hSx s) ?_ ?_
      · rintro i y σ H1 H1' hi ⟨kvs, v2, v3, rfl, s2, e1, e2, e3⟩ ⟨T, x, z, rfl, hT, rfl, h1, h2⟩
        obtain ⟨n, hn, rfl⟩ := ofV h2
        cases h1
        have s3 := same_upd (o := .tup [.int (i : Int), .int n]) s2 hT
        have Td : T ≠ d := fun z => by
          rw [z, e1] at hT
          cases hT
        have e1' : (upd H1 T (.tup [.int (i : Int), .int n])) d = some (.dK kvs) := by
          rw [upd_ne Td.symm]
          exact e1
        rw [List.length_map] at few hi
        refine ⟨T, _, rfl, SqT.of upd_same, rfl, _, _, rfl, _, _, rfl, rfl, ?_⟩
        refine ⟨_, rfl, d, rfl, .inl ⟨kvs, e1'⟩, _, rfl, _, rfl, .inl ⟨kvs, .inl n, e1', rfl, Nat.lt_of_le_of_lt (by omega : kvs.length ≤ 1000) (by decide), fun v hv => ?_, fun hv => ?_⟩⟩
        · refine ⟨kvs, _, _, rfl, s3, e1', by omega, fun m => ?_⟩
          rw [e3, take_more hn]
          by_cases c : m ∈ ns.take i
          · rw [if_pos c, if_pos (List.mem_append.mpr (.inl c))]
          · rw [if_neg c, if_neg fun z => ?_]
            rcases List.mem_append.mp z with z | z
            · exact c z
            · rw [List.mem_singleton.mp z] at c
              rw [e3, if_neg c] at hv
              cases hv
        · have nin : n ∉ ns.take i := fun z => by
            rw [e3, if_pos z] at hv
            cases hv
          refine ⟨_, _, _, rfl, same_set s3 hd, upd_same, by have := length_putK kvs (.inl n) (V.int (i : Int)); omega, fun m => ?_⟩
          rw [valV_put, take_more hn]
          by_cases c : m = n
          · subst c
            rw [if_pos rfl, if_pos (by simp), fi_new hn nin]
          · rw [if_neg fun z => c (by injection z), e3]
            by_cases c2 : m ∈ ns.take i
            · rw [if_pos c2, if_pos (List.mem_append.mpr (.inl c2))]
            · rw [if_neg c2, if_neg fun z => ?_]
              rcases List.mem_append.mp z with z | z
              · exact c2 z
              · exact c (List.mem_singleton.mp z)
      · rintro σ H1 ⟨kvs, v2, v3, rfl, s2, e1, e2, e3⟩
        rw [List.length_map] at e3 few
        rw [List.take_length] at e3
        refine ⟨_, rfl, a, rfl, .inl ⟨⟨_, hSx s2⟩, fun D hD => ?_⟩⟩
        have Dd : D ≠ d := fun z => by
          rw [z, e1] at hD
          cases hD
        refine lc_list (K := K) (a := a) (xs := ns.map V.int) (fun i H' => H' = upd H1 D (.lst (((ns.take i).map (fi ns)).map V.int))) rfl (fun i H' _ e => by rw [e]; exact hSx (s2.trans (same_upd (Same.refl _) hD))) ?_ ?_
        · rintro i y H2 hi rfl
          obtain ⟨n, hn, rfl⟩ := ofV hi
          refine ⟨rfl, ?_⟩
          refine ⟨_, rfl, _, rfl, .inl ⟨d, .int (fi ns n), rfl, ?_, ?_⟩⟩
          · have q := DGet.k (H := upd H1 D (.lst (((ns.take i).map (fi ns)).map V.int))) (a := d) (kvs := kvs) (k := .inl n) (by rw [upd_ne Dd.symm]; exact e1)
            rw [e3, if_pos (List.mem_of_getElem? hn)] at q
            exact q
          · refine ⟨_, upd_same, ?_, ?_⟩
            · rw [List.length_map, List.length_map, List.length_take]
              exact Nat.lt_of_le_of_lt (by omega : min i ns.length ≤ 1000) (by decide)
            · rw [upd_upd, take_more hn, List.map_append, List.map_append]
              rfl
        · rintro H2 rfl
          rw [List.length_map, List.take_length]
          exact fin _ D (s2.trans (same_upd (Same.refl _) hD)) (s2.free hD) upd_same
     ·
      have hSx : ∀ {H' : Hp}, Same H H' → SqT K H' a (ns.map V.int) := fun s => seqT s hS
      refine .inl fun d hd => ?_
      have s1 := same_upd (o := .dK []) (Same.refl H) hd
      refine ⟨_, rfl, a, rfl, .inr ⟨⟨_, hSx s1⟩, ?_⟩⟩
      refine for_it (walk_enumT (xs := ns.map V.int)) (fun i σ H' => ∃ (kvs : List (L2.Key × V)) (v2 v3 : Option V), σ = [some (.ref a), some (.ref d), v2, v3] ∧ Same H H' ∧ H' d = some (.dK kvs) ∧ kvs.length ≤ i ∧ ∀ n : Int, valV kvs (.inl n) = if n ∈ ns.take i then some (.int (fi ns n)) else none)
        ⟨[], none, none, rfl, s1, upd_same, Nat.le_refl _, fun n => rfl⟩ (fun i σ H' _ ⟨_, _, _, _, s, _⟩ => hSx s) ?_ ?_
      · rintro i y σ H1 H1' hi ⟨kvs, v2, v3, rfl, s2, e1, e2, e3⟩ ⟨T, x, z, rfl, hT, rfl, h1, h2⟩
        obtain ⟨n, hn, rfl⟩ := ofV h2
        cases h1
        have s3 := same_upd (o := .tup [.int (i : Int), .int n]) s2 hT
        have Td : T ≠ d := fun z => by
          rw [z, e1] at hT
          cases hT
        have e1' : (upd H1 T (.tup [.int (i : Int), .int n])) d = some (.dK kvs) := by
          rw [upd_ne Td.symm]
          exact e1
        rw [List.length_map] at few hi
        refine ⟨T, _, rfl, SqT.of upd_same, rfl, _, _, rfl, _, _, rfl, rfl, ?_⟩
        refine ⟨_, rfl, d, rfl, .inl ⟨kvs, e1'⟩, _, rfl, _, rfl, .inl ⟨kvs, .inl n, e1', rfl, Nat.lt_of_le_of_lt (by omega : kvs.length ≤ 1000) (by decide), fun v hv => ?_, fun hv => ?_⟩⟩
        · refine ⟨kvs, _, _, rfl, s3, e1', by omega, fun m => ?_⟩
          rw [e3, take_more hn]
          by_cases c : m ∈ ns.take i
          · rw [if_pos c, if_pos (List.mem_append.mpr (.inl c))]
          · rw [if_neg c, if_neg fun z => ?_]
            rcases List.mem_append.mp z with z | z
            · exact c z
            · rw [List.mem_singleton.mp z] at c
              rw [e3, if_neg c] at hv
              cases hv
        · have nin : n ∉ ns.take i := fun z => by
            rw [e3, if_pos z] at hv
            cases hv
          refine ⟨_, _, _, rfl, same_set s3 hd, upd_same, by have := length_putK kvs (.inl n) (V.int (i : Int)); omega, fun m => ?_⟩
          rw [valV_put, take_more hn]
          by_cases c : m = n
          · subst c
            rw [if_pos rfl, if_pos (by simp), fi_new hn nin]
          · rw [if_neg fun z => c (by injection z), e3]
            by_cases c2 : m ∈ ns.take i
            · rw [if_pos c2, if_pos (List.mem_append.mpr (.inl c2))]
            · rw [if_neg c2, if_neg fun z => ?_]
              rcases List.mem_append.mp z with z | z
              · exact c2 z
              · exact c (List.mem_singleton.mp z)
      · rintro σ H1 ⟨kvs, v2, v3, rfl, s2, e1, e2, e3⟩
        rw [List.length_map] at e3 few
        rw [List.take_length] at e3
        refine ⟨_, rfl, a, rfl, .inr ⟨⟨_, hSx s2⟩, fun D hD => ?_⟩⟩
        have Dd : D ≠ d := fun z => by
          rw [z, e1] at hD
          cases hD
        refine lc_tup (K := K) (a := a) (xs := ns.map V.int) (fun i H' => H' = upd H1 D (.lst (((ns.take i).map (fi ns)).map V.int))) rfl (fun i H' _ e => by rw [e]; exact hSx (s2.trans (same_upd (Same.refl _) hD))) ?_ ?_
        · rintro i y H2 hi rfl
          obtain ⟨n, hn, rfl⟩ := ofV hi
          refine ⟨rfl, ?_⟩
          refine ⟨_, rfl, _, rfl, .inl ⟨d, .int (fi ns n), rfl, ?_, ?_⟩⟩
          · have q := DGet.k (H := upd H1 D (.lst (((ns.take i).map (fi ns)).map V.int))) (a := d) (kvs := kvs) (k := .inl n) (by rw [upd_ne Dd.symm]; exact e1)
            rw [e3, if_pos (List.mem_of_getElem? hn)] at q
            exact q
          · refine ⟨_, upd_same, ?_, ?_⟩
            · rw [List.length_map, List.length_map, List.length_take]
              exact Nat.lt_of_le_of_lt (by omega : min i ns.length ≤ 1000) (by decide)
            · rw [upd_upd, take_more hn, List.map_append, List.map_append]
              rfl
        · rintro H2 rfl
          rw [List.length_map, List.take_length]
          exact fin _ D (s2.trans (same_upd (Same.refl _) hD)) (s2.free hD) upd_same
    | mp as ps hS hk =>
      have lenP : as.length = ps.length := Paired.length hk
      rw [List.length_map] at few
      refine .inr fun d hd => ?_
      have s1 := same_upd (o := NestO P w d []) (Same.refl H) hd
      refine ⟨_, rfl, a, rfl, .inl ⟨⟨_, s1.seq hS⟩, ?_⟩⟩
      refine for_it (walk_enum (xs := as.map V.ref)) (fun i σ H' => ∃ (kvs : List (PK × Int)) (v2 v3 : Option V), σ = [some (.ref a), some (.ref d), v2, v3] ∧ Same H H' ∧ NestD P w H' d kvs ∧ kvs.length ≤ i ∧ ∀ p : PK, findK kvs p = if p ∈ ps.take i then some (fi ps p) else none)
        ⟨[], none, none, rfl, s1, NestD.new hd, Nat.le_refl _, fun n => rfl⟩ (fun i σ H' _ ⟨_, _, _, _, s, _⟩ => s.seq hS) ?_ ?_
      · rintro i y σ H1 H1' hi ⟨kvs, v2, v3, rfl, s2, e1, e2, e3⟩ ⟨T, x, z, rfl, hT, rfl, h1, h2⟩
        obtain ⟨b, hb, rfl⟩ := ofV h2
        cases h1
        obtain ⟨p, hp, kb⟩ := DT.pget2 hk hb
        have s3 := same_upd (o := .tup [.int (i : Int), .ref b]) s2 hT
        have e1' := e1.same (same_upd (o := .tup [.int (i : Int), .ref b]) (Same.refl H1) hT)
        rw [List.length_map] at hi
        refine ⟨T, _, rfl, SqT.of upd_same, rfl, _, _, rfl, _, _, rfl, rfl, ?_⟩
        refine ⟨_, rfl, d, rfl, .inr ⟨kvs, e1'⟩, _, rfl, _, rfl, .inr ⟨b, kvs, p, (i : Int), rfl, rfl, e1', kb.same s3, Nat.lt_of_le_of_lt (by omega : kvs.length ≤ 1000) (by decide), fun v hv => ?_, fun hv xs' nd => ?_⟩⟩
        · refine ⟨kvs, _, _, rfl, s3, e1', by omega, fun m => ?_⟩
          rw [e3, take_more hp]
          by_cases c : m ∈ ps.take i
          · rw [if_pos c, if_pos (List.mem_append.mpr (.inl c))]
          · rw [if_neg c, if_neg fun z => ?_]
            rcases List.mem_append.mp z with z | z
            · exact c z
            · rw [List.mem_singleton.mp z] at c
              rw [e3, if_neg c] at hv
              cases hv
        · have nin : p ∉ ps.take i := fun z => by
            rw [e3, if_pos z] at hv
            cases hv
          refine ⟨_, _, _, rfl, same_set s3 hd, nd, by rw [List.length_append, List.length_singleton]; omega, fun m => ?_⟩
          rw [findK_snoc hv, take_more hp]
          by_cases c : m = p
          · subst c
            rw [if_pos rfl, if_pos (by simp), fi_new hp nin]
          · rw [if_neg c, e3]
            by_cases c2 : m ∈ ps.take i
            · rw [if_pos c2, if_pos (List.mem_append.mpr (.inl c2))]
            · rw [if_neg c2, if_neg fun z => ?_]
              rcases List.mem_append.mp z with z | z
              · exact c2 z
              · exact c (List.mem_singleton.mp z)
      · rintro σ H1 ⟨kvs, v2, v3, rfl, s2, e1, e2, e3⟩
        rw [List.length_map, lenP, List.take_length] at e3
        refine ⟨_, rfl, a, rfl, .inl ⟨⟨_, s2.seq hS⟩, fun D hD => ?_⟩⟩
        have sD := fun o => same_upd (o := o) (Same.refl H1) hD
        refine lc_list (K := K) (a := a) (xs := as.map V.ref) (fun i H' => H' = upd H1 D (.lst (((ps.take i).map (fi ps)).map V.int))) rfl (fun i H' _ e => by rw [e]; exact (s2.trans (sD _)).seq hS) ?_ ?_
        · rintro i y H2 hi rfl
          obtain ⟨b, hb, rfl⟩ := ofV hi
          obtain ⟨p, hp, kb⟩ := DT.pget2 hk hb
          refine ⟨rfl, ?_⟩
          refine ⟨_, rfl, _, rfl, .inr ⟨d, b, kvs, p, fi ps p, rfl, rfl, e1.same (sD _), kb.same (s2.trans (sD _)), by rw [e3, if_pos (List.mem_of_getElem? hp)], ?_⟩⟩
          refine ⟨_, upd_same, ?_, ?_⟩
          · rw [List.length_map, List.length_map, List.length_take]
            exact Nat.lt_of_le_of_lt (by omega : min i ps.length ≤ 1000) (by decide)
          · rw [upd_upd, take_more hp, List.map_append, List.map_append]
            rfl
        · rintro H2 rfl
          rw [List.length_map, lenP, List.take_length]
          exact fin _ D (s2.trans (sD _)) (s2.free hD) upd_same
end
end K63

set_option Elab.async false
set_option linter.all false
set_option maxRecDepth 100000
set_option maxHeartbeats 4000000
namespace K63
open PySem PySem.Spec PyProof.Rows L2 Mz
def rgL (n : Nat) : List Int := (List.range n).map fun (i : Nat) => (i : Int)
def gS (S : List Int) (x : Int) : Int := S.getD x.toNat 0
def ctxL (M : TM) (S : List Int) (p : Int) (s : Nat) (o : List Int) : List Int := [gS S (M.to s (p :: o)), gS S (M.to s (o ++ [p]))]
def afK (M : TM) (s : Nat) : List (List Int) := if M.rank (s : Int) = 0 then [] else kidsL (M.rank (s : Int) - 1).toNat (rgL M.outs.length)
def afL (M : TM) (S : List Int) (p : Int) (n : Nat) : List Int := (List.range n).flatMap fun (s : Nat) => (afK M s).flatMap (ctxL M S p s)
def spAfters : Sp := fun vs H Q _ => ∃ (m a : Addr) (M : TM) (S : List Int) (p : Int), vs = [.ref m, .ref a, .int p] ∧ TMA H m M ∧ GoodT M ∧ H a = some (.lst (S.map V.int)) ∧ S.length = M.outs.length ∧ Rg M p ∧ ∀ (H' : Hp) (t : Addr), Same H H' → H' t = some (.tup ((afL M S p M.rs.length).map V.int)) → Q (.ref t) H'
section
variable {P : Program} {w : World} {K : PySem.W.Frag} {mg : Str → Option Value} {base : Heap} {A : Ads} {c Pt : Addr}
theorem ok_afters (T : Txt K mg A) : FnOk P w K mg base CX0 2 A.a_afters A.d_afters ["machine", "same", "state"] spAfters := by
  refine T.F_afters.ok sc_afters (fun vs H Q E h => ?_) (fun cdv Ar outer s H vs Q E hr h => ?_)
  · obtain ⟨_, _, _, _, _, rfl, _⟩ := h
    rfl
  · have G_kids_of := ok_kids (P := P) (w := w) (base := base) T
    have hr_kids_of : Room 1 (Ar.deeper (envOfC "_afters" (C8.fnScope s_afters) s.heap.objs.size A.a_afters cdv)) := hr
    have G_entry_of := ok_entry (P := P) (w := w) (base := base) T
    have hr_entry_of := hr_kids_of
    refine ⟨_, (pss_cons (ps_asg (pv 0) (pg_tup rfl (pgs_cons (pg_name (i := 3) sc_afters.nd rfl (Or.inl rfl)) (pgs_cons (pg_name (i := 4) sc_afters.nd rfl (Or.inl rfl)) (pgs_cons (pg_name (i := 5) sc_afters.nd rfl (Or.inl rfl)) (pgs_cons (pg_name (i := 6) sc_afters.nd rfl (Or.inl rfl)) pgs_nil))))))
      (pss_cons (ps_set (i := 7) sc_afters.nd rfl (Or.inl rfl) (pe_callB call_len_seq (by rfl) T.n_len PySem.boot_len (pa_cons (pv 6) pa_nil)))
      (pss_cons (ps_set (i := 8) sc_afters.nd rfl (Or.inl rfl) (pe_lst pa_nil))
      (pss_cons (ps_for PassesOwn.never rfl (RZ.pi_zipA (by rfl) T.n_zip (pa_cons (pv 3) (pa_cons (pv 5) pa_nil))) (pg_tup rfl (pgs_cons (pg_name (i := 9) sc_afters.nd rfl (Or.inl rfl)) (pgs_cons (pg_name (i := 10) sc_afters.nd rfl (Or.inl rfl)) pgs_nil)))
        (pss_one (ps_for PassesOwn.never rfl (pi_list (pe_ifExp (pt_truth (pv 9) (by intro _; rfl)) (pe_call G_kids_of hr_kids_of (by rfl) T.g_kids_of T.F_kids_of.kp T.b_kids_of .nil pass0 (pa_cons (pe_op op_sub (pv 9) pe_int) (pa_cons (pe_listRg rfl (by rfl) T.n_list (prg_1 (by rfl) T.n_range (pv 7))) pa_nil))) (pe_lst pa_nil))) (pg_name (i := 11) sc_afters.nd rfl (Or.inl rfl))
            (pss_cons (ps_expr (pe_bm PySem.F.plainAttrs_list PySem.F.slot_list_append PySem.F.type_list_append mt_append (pv 8) (pa_cons (pe_ix (r := rIx K) ix_seq (pv 1) (pe_ix (r := rIx K) ix_seq (pv 10) (pe_call G_entry_of hr_entry_of (by rfl) T.g_entry_of T.F_entry_of.kp T.b_entry_of .nil pass0 (pa_cons (pe_op (r := rCatA K) op_catA (pe_tup (pa_cons (pv 2) pa_nil)) (pv 11)) (pa_cons (pv 7) pa_nil))) (fun _ _ => rfl)) (fun _ _ => rfl)) pa_nil)))
              (pss_one (ps_expr (pe_bm PySem.F.plainAttrs_list PySem.F.slot_list_append PySem.F.type_list_append mt_append (pv 8) (pa_cons (pe_ix (r := rIx K) ix_seq (pv 1) (pe_ix (r := rIx K) ix_seq (pv 10) (pe_call G_entry_of hr_entry_of (by rfl) T.g_entry_of T.F_entry_of.kp T.b_entry_of .nil pass0 (pa_cons (pe_op (r := rCatA K) op_catA (pv 11) (pe_tup (pa_cons (pv 2) pa_nil))) (pa_cons (pv 7) pa_nil))) (fun _ _ => rfl)) (fun _ _ => rfl)) pa_nil))))))))
      (pss_one (ps_ret (pe_callTy call_tuple_of (by rfl) T.n_tuple (by decide +kernel) (pa_cons (pv 8) pa_nil)))))))), ?_⟩
    obtain ⟨m, a, M, S, p, rfl, hMA, g, hS, lS, hp, fin⟩ := h
    obtain ⟨r, ru, ou, qs, hM⟩ := id hMA
    have n6 := g.n6
    have n1 := g.n1
    have lo : (M.outs.map V.int).length = M.outs.length := List.length_map ..
    refine ⟨_, rfl, m, _, rfl, SqT.of hM.top, rfl, _, _, rfl, _, _, rfl, _, _, rfl, _, _, rfl, rfl, ?_⟩
    refine ⟨_, rfl, ou, _, rfl, .inr (SqT.of hM.ou), ?_⟩
    rw [lo]
    refine ⟨Nat.zero_le _, fun l hl => ?_⟩
    have s0 := same_upd (o := .lst []) (Same.refl H) hl
    have e0 : (upd H l (.lst [])) l = some (.lst (([] : List Int).map V.int)) := upd_same
    generalize upd H l (.lst []) = H0 at *
    have hM0 := hM.same s0
    have gat : ∀ {H' : Hp} {x : Int}, Same H H' → Rg M x → SqL K H' a (S.map V.int) ∧ atI (S.map V.int) x = some (.int (gS S x)) := fun {H' x} s hx => ⟨SqL.of (s _ _ hS), atI_get? hx.1 (by
      have : x.toNat < S.length := by have e : M.n = (M.outs.length : Int) := rfl; have := hx.2; have := hx.1; omega
      unfold gS
      rw [List.getD_eq_getElem?_getD, List.getElem?_eq_getElem this]
      rfl)⟩
    refine ⟨_, rfl, _, rfl, r, ru, _, _, rfl, .inr ⟨rd_t hM0.rs, SqT.of hM0.ru, RZ.for_zipT (K := K) (a := r) (b := ru) (xs := M.rs.map V.int) (ys := qs.map V.ref) (by rw [List.length_map, List.length_map, hM.len, g.rl])
      (fun i σ H' => ∃ (v4 v9 v10 v11 : Option V), σ = [some (.ref m), some (.ref a), some (.int p), some (.ref r), v4, some (.ref ru), some (.ref ou), some (.int (M.outs.length : Int)), some (.ref l), v9, v10, v11] ∧ Same H H' ∧ H' l = some (.lst ((afL M S p i).map V.int)))
      ⟨_, none, none, none, rfl, s0, e0⟩ (fun i σ H' ⟨_, _, _, _, _, s, _⟩ => ⟨rd_t (rd_same s hM.rs), SqT.of (s _ _ hM.ru)⟩) ?_ ?_⟩⟩
    · rintro i x y Tt σ H1 hx hy ⟨v4, v9, v10, v11, rfl, s1, e1⟩ hTt
      obtain ⟨rk, hrank, rfl⟩ := ofV hx
      obtain ⟨rq, hrq, rfl⟩ := ofV hy
      have il := (List.getElem?_eq_some_iff.mp hrank).1
      have rkE : M.rank (i : Int) = rk := by
        have := rank_at il
        rw [hrank] at this
        exact (Option.some.inj this).symm
      obtain ⟨rk0, rk3⟩ := rank_rg g il
      rw [rkE] at rk0 rk3
      have sT := same_upd (o := .tup [.int rk, .ref rq]) (Same.refl H1) hTt
      have eT : (upd H1 Tt (.tup [.int rk, .ref rq])) Tt = some (.tup [.int rk, .ref rq]) := upd_same
      have s2 := s1.trans sT
      have e2 := sT _ _ e1
      generalize upd H1 Tt (.tup [.int rk, .ref rq]) = H2 at *
      obtain ⟨_, m5, _, _⟩ := ranks_iff.mp g.rk
      have lafK : ∀ s, (afK M s).length ≤ 36 := fun s => by
        unfold afK
        by_cases c : M.rank (s : Int) = 0
        · rw [if_pos c]
          exact Nat.zero_le _
        · rw [if_neg c, kids_len]
          by_cases hs : s < M.rs.length
          · have := rank_rg g hs
            have h1 : (M.rank (s : Int) - 1).toNat ≤ 2 := by omega
            have h2 : (rgL M.outs.length).length = M.outs.length := by unfold rgL; rw [List.length_map, List.length_range]
            rw [h2]
            exact Nat.le_trans (Nat.pow_le_pow_left n6 _) (Nat.le_trans (Nat.pow_le_pow_right (by decide) h1) (by decide))
          · have h0 : M.rank (s : Int) = 0 := by
              show M.rs.getD (s : Int).toNat 0 = 0
              rw [Int.toNat_natCast, List.getD_eq_getElem?_getD, List.getElem?_eq_none (by omega)]
              rfl
            exact absurd h0 c
      have lcx : ∀ (ks : List (List Int)) s, (ks.flatMap (ctxL M S p s)).length = 2 * ks.length := fun ks s => by
        rw [List.length_flatMap]
        have e : (ks.map fun o => (ctxL M S p s o).length) = ks.map fun _ => 2 := List.map_congr_left fun _ _ => rfl
        rw [e, List.map_const', List.sum_replicate_nat, Nat.mul_comm]
      have laf : ∀ n, (afL M S p n).length ≤ n * 72 := fun n => by
        induction n with
        | zero => exact Nat.zero_le _
        | succ n ih =>
          unfold afL at ih ⊢
          rw [List.range_succ, List.flatMap_append, List.length_append, List.flatMap_singleton, lcx]
          have := lafK n
          omega
      have iL := laf i
      have i5 : i < 5 := by omega
      refine ⟨Tt, _, rfl, SqT.of eT, rfl, _, _, rfl, _, _, rfl, rfl, ?_⟩
      refine ⟨_, rfl, (rk != 0), rfl, ?_⟩
      have nxt : afL M S p (i + 1) = afL M S p i ++ (afK M i).flatMap (ctxL M S p i) := by
        unfold afL
        rw [List.range_succ, List.flatMap_append, List.flatMap_singleton]
      by_cases c : rk = 0
      · refine ifDF (by rw [c]; rfl) ?_
        refine ⟨Nat.zero_le _, fun q hq => ?_⟩
        have s3 := same_upd (o := .lst []) (Same.refl H2) hq
        have e3 := s3 _ _ e2
        have eq : (upd H2 q (.lst [])) q = some (.lst (([] : List Addr).map V.ref)) := upd_same
        generalize upd H2 q (.lst []) = H3 at *
        refine ⟨q, rfl, ⟨_, SqL.of eq⟩, ?_⟩
        refine for_it (walk_list (xs := ([] : List Addr).map V.ref)) (fun j σ H' => σ = [some (.ref m), some (.ref a), some (.int p), some (.ref r), v4, some (.ref ru), some (.ref ou), some (.int (M.outs.length : Int)), some (.ref l), some (.int rk), some (.ref rq), v11] ∧ H' = H3) ⟨rfl, rfl⟩ (fun j σ H' _ ⟨_, e⟩ => by rw [e]; exact SqL.of eq) (fun j x σ H1 H' hj => absurd hj (Nat.not_lt_zero j)) ?_
        rintro σ H4 ⟨rfl, rfl⟩
        refine ⟨_, _, _, _, rfl, s2.trans s3, ?_⟩
        have e0 : afK M i = [] := if_pos (by rw [rkE]; exact c)
        rw [nxt, e0, List.flatMap_nil, List.append_nil]
        exact e3
      · refine ifDT (by simpa using c) ?_
        refine ⟨_, rfl, _, _, rfl, rfl, _, rfl, (M.outs.length : Int), rfl, ⟨by omega, by omega, by omega, by omega, by omega⟩, fun q hq => ?_⟩
        have erg : rgV 0 (M.outs.length : Int) = (rgL M.outs.length).map V.int := by
          unfold rgV rgL
          rw [List.map_map, show ((M.outs.length : Int) - 0).toNat = M.outs.length by omega]
          refine List.map_congr_left fun x _ => ?_
          show V.int (0 + (x : Int)) = V.int (x : Int)
          rw [Int.zero_add]
        rw [erg]
        have s3 := same_upd (o := .lst ((rgL M.outs.length).map V.int)) (Same.refl H2) hq
        have e3 := s3 _ _ e2
        have eq : (upd H2 q (.lst ((rgL M.outs.length).map V.int))) q = some (.lst ((rgL M.outs.length).map V.int)) := upd_same
        generalize upd H2 q (.lst ((rgL M.outs.length).map V.int)) = H3 at *
        have lrg : (rgL M.outs.length).length = M.outs.length := by unfold rgL; rw [List.length_map, List.length_range]
        refine ⟨q, rgL M.outs.length, (rk - 1).toNat, by rw [Int.toNat_of_nonneg (by omega)]; rfl, SqL.of eq, by omega, by omega, fun H4 ql tk s4 nq eql rel => ?_⟩
        have e4 := s4 _ _ e3
        have qll : ql ≠ l := fun z => by rw [z, e3] at nq; cases nq
        have eK : afK M i = kidsL (rk - 1).toNat (rgL M.outs.length) := by
          unfold afK
          rw [rkE, if_neg c]
        have s24 := s2.trans (s3.trans s4)
        refine ⟨ql, rfl, ⟨_, SqL.of eql⟩, ?_⟩
        refine for_it (walk_list (xs := tk.map V.ref)) (fun j σ H' => ∃ (v11 : Option V), σ = [some (.ref m), some (.ref a), some (.int p), some (.ref r), v4, some (.ref ru), some (.ref ou), some (.int (M.outs.length : Int)), some (.ref l), some (.int rk), some (.ref rq), v11] ∧ Same H H' ∧ Kq l H4 H' ∧ H' l = some (.lst ((afL M S p i ++ ((afK M i).take j).flatMap (ctxL M S p i)).map V.int)))
          ⟨v11, rfl, s24, Kq.refl, by rw [List.take_zero, List.flatMap_nil, List.append_nil]; exact e4⟩ (fun j σ H' _ ⟨_, _, _, k, _⟩ => SqL.of (k _ _ qll eql)) ?_ ?_
        · rintro j y σ H5x H5 hj ⟨v11, rfl, s5, k5, e5⟩ ⟨rfl, hy⟩
          obtain ⟨tj, htj, rfl⟩ := ofV hy
          obtain ⟨os, eos, hos⟩ := rel.to htj
          rw [← eK] at eos
          have hos : H4 tj = some (.tup (os.map V.int)) := hos
          have hos5 := k5 _ _ (fun z => by rw [z, e4] at hos; cases hos) hos
          have jl : j ≤ 36 := by
            have := (List.getElem?_eq_some_iff.1 eos).1
            have := lafK i
            omega
          have mem := (kidsL_mem (rgL M.outs.length) (rk - 1).toNat os).1 (by rw [← eK]; exact List.mem_of_getElem? eos)
          have orr : ∀ k ∈ os, Rg M k := fun k hk => by
            obtain ⟨x, hx, rfl⟩ := List.mem_map.1 (mem.2 k hk)
            have := List.mem_range.1 hx
            have e : M.n = (M.outs.length : Int) := rfl
            exact ⟨by omega, by omega⟩
          -- one of the two
          have one : ∀ {H' : Hp} {tc : Addr} {ks : List Int} {Q' : VK}, Same H H' → H' tc = some (.tup (ks.map V.int)) → ks.length = rk.toNat → (∀ k ∈ ks, Rg M k) → Q' (.int (gS S (M.to i ks))) H' →
              spEntry K [.ref tc, .int (M.outs.length : Int)] H' (fun y H2 => rIx K (.ref rq) y H2 fun z H3 => rIx K (.ref a) z H3 Q') C8.E0 := fun {H' tc ks Q'} s htc hl hk q => by
            have kr : KR M (Rg M) i ks := ⟨il, by rw [rkE]; exact hl, hk⟩
            have hM' := hM.same s
            obtain ⟨er, p0, ep, t0, t1⟩ := entry_at g (s := (i : Int)) (by omega) (by omega) kr.dom kr.len
            have hrow := hM'.row i _ _ hrq er
            refine ⟨tc, ks, _, rfl, SqT.of htc, by rw [hl]; omega, by omega, by omega, fun k hk' => ⟨(hk k hk').1, by have := (hk k hk').2; have e : M.n = (M.outs.length : Int) := rfl; omega⟩, ?_⟩
            have plE : placeN (M.outs.length : Int) 0 ks = plc M.n ks := placeN_plc _ _ _
            rw [plE]
            refine .inr (.inl ⟨_, _, _, _, rfl, rfl, SqT.of hrow, atI_get? p0 ep, ?_⟩)
            obtain ⟨gs, ga⟩ := gat s (x := M.to i ks) ⟨t0, t1⟩
            exact .inl ⟨a, _, _, _, rfl, rfl, gs, ga, q⟩
          have ln5 : ((afL M S p i ++ ((afK M i).take j).flatMap (ctxL M S p i)).map V.int).length ≤ 432 := by
            rw [List.length_map, List.length_append, lcx, List.length_take]
            omega
          refine ⟨_, rfl, .inl ⟨rfl, _, SqL.of e5⟩, ?_⟩
          refine ⟨_, rfl, _, rfl, ⟨_, rfl, (by show 1 ≤ sizeLine; decide), fun t1 ht1 => ?_⟩⟩
          have s6 := same_upd (o := .tup [.int p]) (Same.refl H5) ht1
          have et1 : (upd H5 t1 (.tup [.int p])) t1 = some (.tup (([p] : List Int).map V.int)) := upd_same
          generalize upd H5 t1 (.tup [.int p]) = H6 at *
          refine ⟨_, rfl, catA_any et1 (s6 _ _ hos5) (Nat.le_trans (by rw [List.length_map, List.length_map, mem.1]; show 1 + _ ≤ 4; omega : _ ≤ 4) (by decide)) fun H7 tc s7 etc => ?_⟩
          rw [← List.map_append] at etc
          refine ⟨_, rfl, one (s5.trans (s6.trans s7)) etc (by rw [List.length_append, mem.1]; show 1 + _ = _; omega) (fun k hk => ?_) ?_⟩
          · rcases List.mem_append.1 hk with z | z
            · rw [List.mem_singleton.1 z]; exact hp
            · exact orr k z
          have s57 := s6.trans s7
          have e7 := s57 _ _ e5
          refine ⟨l, _, _, rfl, rfl, e7, Nat.lt_of_le_of_lt ln5 (by decide), ?_⟩
          have hos7 : (upd H7 l (.lst ((afL M S p i ++ ((afK M i).take j).flatMap (ctxL M S p i)).map V.int ++ [.int (gS S (M.to i ([p] ++ os)))]))) tj = some (.tup (os.map V.int)) := (upd_ne fun z => by rw [z, e5] at hos5; cases hos5).trans (s57 _ _ hos5)
          have e8 : (upd H7 l (.lst ((afL M S p i ++ ((afK M i).take j).flatMap (ctxL M S p i)).map V.int ++ [.int (gS S (M.to i ([p] ++ os)))]))) l = some (.lst ((afL M S p i ++ ((afK M i).take j).flatMap (ctxL M S p i) ++ [gS S (M.to i ([p] ++ os))]).map V.int)) := by
            rw [upd_same, List.map_append (l₂ := [gS S (M.to i ([p] ++ os))])]
            rfl
          have s8 : Same H (upd H7 l (.lst ((afL M S p i ++ ((afK M i).take j).flatMap (ctxL M S p i)).map V.int ++ [.int (gS S (M.to i ([p] ++ os)))]))) := same_set (s5.trans s57) hl
          have k8 : Kq l H4 (upd H7 l (.lst ((afL M S p i ++ ((afK M i).take j).flatMap (ctxL M S p i)).map V.int ++ [.int (gS S (M.to i ([p] ++ os)))]))) := (k5.trans (Kq.of s57)).trans Kq.set
          generalize upd H7 l (.lst ((afL M S p i ++ ((afK M i).take j).flatMap (ctxL M S p i)).map V.int ++ [.int (gS S (M.to i ([p] ++ os)))])) = H8 at *
          refine ⟨_, rfl, .inl ⟨rfl, _, SqL.of e8⟩, ?_⟩
          refine ⟨_, rfl, _, rfl, _, rfl, _, rfl, (by show 1 ≤ sizeLine; decide), fun t2 ht2 => ?_⟩
          have s9 := same_upd (o := .tup [.int p]) (Same.refl H8) ht2
          have et2 : (upd H8 t2 (.tup [.int p])) t2 = some (.tup (([p] : List Int).map V.int)) := upd_same
          generalize upd H8 t2 (.tup [.int p]) = H9 at *
          refine catA_any (s9 _ _ hos7) et2 (Nat.le_trans (by rw [List.length_map, List.length_map, mem.1]; show _ + 1 ≤ 4; omega : _ ≤ 4) (by decide)) fun H10 td s10 etd => ?_
          rw [← List.map_append] at etd
          refine ⟨_, rfl, one (s8.trans (s9.trans s10)) etd (by rw [List.length_append, mem.1]; show _ + 1 = _; omega) (fun k hk => ?_) ?_⟩
          · rcases List.mem_append.1 hk with z | z
            · exact orr k z
            · rw [List.mem_singleton.1 z]; exact hp
          have s80 := s9.trans s10
          refine ⟨l, _, _, rfl, rfl, s80 _ _ e8, Nat.lt_of_le_of_lt (by rw [List.length_map, List.length_append]; rw [List.length_map] at ln5; show _ + 1 ≤ 433; omega : _ ≤ 433) (by decide), ?_⟩
          refine ⟨_, rfl, same_set (s8.trans s80) hl, (k8.trans (Kq.of s80)).trans Kq.set, ?_⟩
          rw [upd_same, take_more eos, List.flatMap_append, List.flatMap_singleton]
          show some (HO.lst _) = some (HO.lst ((_ ++ (_ ++ [gS S (M.to i ([p] ++ os)), gS S (M.to i (os ++ [p]))])).map V.int))
          rw [show ([gS S (M.to i ([p] ++ os)), gS S (M.to i (os ++ [p]))] : List Int) = [gS S (M.to i ([p] ++ os))] ++ [gS S (M.to i (os ++ [p]))] from rfl, ← List.append_assoc, ← List.append_assoc, List.map_append (l₂ := [gS S (M.to i (os ++ [p]))])]
          rfl
        · rintro σ H5 ⟨v11, rfl, s5, k5, e5⟩
          rw [List.length_map, rel.1, ← eK, List.take_length] at e5
          refine ⟨_, _, _, _, rfl, s5, ?_⟩
          rw [nxt]
          exact e5
    · rintro σ H1 ⟨v4, v9, v10, v11, rfl, s1, e1⟩
      rw [List.length_map] at e1
      refine ⟨_, rfl, l, _, rfl, .inl ⟨SqL.of e1, fun t ht => ?_⟩⟩
      exact fin _ t (s1.trans (same_upd (Same.refl _) ht)) upd_same
end
end K63

set_option Elab.async false
set_option linter.all false
set_option maxRecDepth 100000
set_option maxHeartbeats 4000000
/-! equivalences that become finer: how often; pairs that are parted within t letters -/
namespace Mz
open PySem PySem.Spec PyProof.Rows L2
theorem filter_le {p q : Nat → Bool} : ∀ l : List Nat, (∀ x ∈ l, p x = true → q x = true) → (l.filter p).length ≤ (l.filter q).length
  | [], _ => Nat.le_refl _
  | a :: l, h => by
    have ih := filter_le l fun x hx => h x (List.mem_cons_of_mem _ hx)
    have ha := h a List.mem_cons_self
    rw [List.filter_cons, List.filter_cons]
    cases e1 : p a with
    | true =>
      rw [if_pos rfl, ha e1, if_pos rfl, List.length_cons, List.length_cons]
      omega
    | false =>
      rw [if_neg (by simp)]
      split
      · rw [List.length_cons]
        omega
      · exact ih
theorem filter_lt {p q : Nat → Bool} : ∀ l : List Nat, (∀ x ∈ l, p x = true → q x = true) → (∃ x ∈ l, q x = true ∧ p x = false) → (l.filter p).length < (l.filter q).length
  | [], _, h => by
    obtain ⟨x, hx, _⟩ := h
    exact absurd hx (by simp)
  | a :: l, h, ⟨x, hx, q1, q2⟩ => by
    have le := filter_le l fun x hx => h x (List.mem_cons_of_mem _ hx)
    have ha := h a List.mem_cons_self
    rw [List.filter_cons, List.filter_cons]
    rcases List.mem_cons.mp hx with e | e
    · rw [e] at q1 q2
      rw [q2, if_neg (by simp), q1, if_pos rfl, List.length_cons]
      omega
    · have ih := filter_lt l (fun x hx => h x (List.mem_cons_of_mem _ hx)) ⟨x, e, q1, q2⟩
      cases e1 : p a with
      | true =>
        rw [if_pos rfl, ha e1, if_pos rfl, List.length_cons, List.length_cons]
        omega
      | false =>
        rw [if_neg (by simp)]
        split
        · rw [List.length_cons]
          omega
        · exact ih
/-- an equivalence on the numbers below n -/
structure Eqv (n : Nat) (R : Nat → Nat → Prop) : Prop where
  refl : ∀ x, R x x
  symm : ∀ x y, R x y → R y x
  trans : ∀ x y z, R x y → R y z → R x z
def Least (R : Nat → Nat → Prop) (x : Nat) : Prop := ∀ y, y < x → ¬ R x y
open Classical in
noncomputable def cnt (n : Nat) (R : Nat → Nat → Prop) : Nat := ((List.range n).filter fun x => decide (Least R x)).length
theorem cnt_le (n : Nat) (R : Nat → Nat → Prop) : cnt n R ≤ n := by
  have := List.length_filter_le (fun x => @decide (Least R x) (Classical.propDecidable _)) (List.range n)
  rw [List.length_range] at this
  exact this
theorem least_of {R : Nat → Nat → Prop} {n : Nat} (E : Eqv n R) : ∀ x : Nat, ∃ r, r ≤ x ∧ R x r ∧ Least R r := by
  intro x
  induction x using Nat.strongRecOn with
  | ind x ih =>
    by_cases h : Least R x
    · exact ⟨x, Nat.le_refl _, E.refl x, h⟩
    · have : ∃ y, y < x ∧ R x y := Classical.byContradiction fun z => h fun y hy r => z ⟨y, hy, r⟩
      obtain ⟨y, hy, r⟩ := this
      obtain ⟨r', l, e, m⟩ := ih y hy
      exact ⟨r', by omega, E.trans _ _ _ r e, m⟩
open Classical in
/-- strictly finer: more classes -/
theorem cnt_lt {n : Nat} {R S : Nat → Nat → Prop} (ER : Eqv n R) (ES : Eqv n S) (fine : ∀ x y, S x y → R x y) (h : ∃ x y, x < n ∧ y < n ∧ R x y ∧ ¬ S x y) : cnt n R < cnt n S := by
  unfold cnt
  refine filter_lt _ (fun x _ e => ?_) ?_
  · exact decide_eq_true fun y hy s => of_decide_eq_true e y hy (fine _ _ s)
  · obtain ⟨x, y, hx, hy, r, s⟩ := h
    obtain ⟨a, la, ra, ma⟩ := least_of ES x
    obtain ⟨b, lb, rb, mb⟩ := least_of ES y
    have ne : a ≠ b := fun z => by
      subst z
      exact s (ES.trans _ _ _ ra (ES.symm _ _ rb))
    have rab : R a b := ER.trans _ _ _ (ER.symm _ _ (fine _ _ ra)) (ER.trans _ _ _ r (fine _ _ rb))
    by_cases c : a < b
    · exact ⟨b, List.mem_range.mpr (by omega), decide_eq_true mb, decide_eq_false fun z => z a c (ER.symm _ _ rab)⟩
    · exact ⟨a, List.mem_range.mpr (by omega), decide_eq_true ma, decide_eq_false fun z => z b (by omega) rab⟩
open Classical in
theorem cnt_pos {n : Nat} (R : Nat → Nat → Prop) (h : 0 < n) : 0 < cnt n R := by
  unfold cnt
  refine List.length_pos_of_mem (a := 0) (List.mem_filter.mpr ⟨List.mem_range.mpr h, ?_⟩)
  exact decide_eq_true fun y hy => absurd hy (Nat.not_lt_zero _)
/-- d times finer: more than d numbers -/
theorem fine_few {n d : Nat} {R : Nat → Nat → Nat → Prop} (hn : 0 < n) (E : ∀ t, Eqv n (R t)) (fine : ∀ t x y, R (t + 1) x y → R t x y) (h : ∀ e, e < d → ∃ x y, x < n ∧ y < n ∧ R e x y ∧ ¬ R (e + 1) x y) : d + 1 ≤ n := by
  have key : ∀ e, e ≤ d → e + 1 ≤ cnt n (R e) := by
    intro e
    induction e with
    | zero => intro _; exact cnt_pos _ hn
    | succ e ih =>
      intro he
      have := ih (by omega)
      have := cnt_lt (E e) (E (e + 1)) (fine e) (h e (by omega))
      omega
  have := key d (Nat.le_refl _)
  have := cnt_le n (R d)
  omega
/-! ### parted within t letters -/
section
variable (M N : Mach)
def Dn (t : Nat) (p : Pr) : Prop := ∃ v, Lt M.ls v ∧ v.length ≤ t ∧ Bad M N (runP M N p v)
/-- d letters are needed -/
def IsD (d : Nat) (p : Pr) : Prop := Dn M N d p ∧ ∀ e, e < d → ¬ Dn M N e p
end
section
variable {M N : Mach}
theorem Dn.mono {t u : Nat} {p : Pr} (h : Dn M N t p) (l : t ≤ u) : Dn M N u p := by
  obtain ⟨v, a, b, c⟩ := h
  exact ⟨v, a, by omega, c⟩
theorem dn_zero {p : Pr} : Dn M N 0 p ↔ Bad M N p := by
  constructor
  · rintro ⟨v, _, l, b⟩
    have : v = [] := List.length_eq_zero_iff.mp (by omega)
    subst this
    exact b
  · intro b
    exact ⟨[], fun z hz => absurd hz (by simp), Nat.le_refl _, b⟩
theorem dn_succ {t : Nat} {p : Pr} : Dn M N (t + 1) p ↔ Bad M N p ∨ ∃ a, 0 ≤ a ∧ a < M.ls ∧ Dn M N t (stepP M N p a) := by
  constructor
  · rintro ⟨v, h, l, b⟩
    cases v with
    | nil => exact .inl b
    | cons a v =>
      refine .inr ⟨a, (h a List.mem_cons_self).1, (h a List.mem_cons_self).2, v, fun z hz => h z (List.mem_cons_of_mem _ hz), ?_, b⟩
      rw [List.length_cons] at l
      omega
  · rintro (b | ⟨a, h0, h1, v, h, l, b⟩)
    · exact (dn_zero.mpr b).mono (Nat.zero_le _)
    · refine ⟨a :: v, fun z hz => ?_, by rw [List.length_cons]; omega, b⟩
      rcases List.mem_cons.mp hz with e | e
      · rw [e]
        exact ⟨h0, h1⟩
      · exact h z e
theorem isd_of {t : Nat} {p : Pr} (h : Dn M N t p) : ∃ d, d ≤ t ∧ IsD M N d p := by
  induction t with
  | zero => exact ⟨0, Nat.le_refl _, h, fun e he => absurd he (Nat.not_lt_zero _)⟩
  | succ t ih =>
    by_cases c : Dn M N t p
    · obtain ⟨d, l, i⟩ := ih c
      exact ⟨d, by omega, i⟩
    · exact ⟨t + 1, Nat.le_refl _, h, fun e he z => c (z.mono (by omega))⟩
theorem IsD.uniq {d e : Nat} {p : Pr} (a : IsD M N d p) (b : IsD M N e p) : d = e := by
  by_cases h : d < e
  · exact absurd a.1 (b.2 d h)
  · by_cases h2 : e < d
    · exact absurd b.1 (a.2 e h2)
    · omega
/-- the next pair needs one letter less -/
theorem IsD.down (k : Kin M N) {d : Nat} {p : Pr} (hp : InP M N p) (h : IsD M N (d + 1) p) : ∃ a, 0 ≤ a ∧ a < M.ls ∧ IsD M N d (stepP M N p a) := by
  rcases dn_succ.mp h.1 with b | ⟨a, h0, h1, q⟩
  · exact absurd ((dn_zero.mpr b).mono (Nat.zero_le _)) (h.2 d (by omega))
  · refine ⟨a, h0, h1, q, fun e he z => ?_⟩
    exact h.2 (e + 1) (by omega) (dn_succ.mpr (.inr ⟨a, h0, h1, z⟩))
theorem isd_all (k : Kin M N) : ∀ {d : Nat} {p : Pr}, InP M N p → IsD M N d p → ∀ e, e ≤ d → ∃ q, InP M N q ∧ IsD M N e q
  | 0, p, hp, h, e, he => ⟨p, hp, by rw [show e = 0 by omega]; exact h⟩
  | d + 1, p, hp, h, e, he => by
    by_cases c : e = d + 1
    · exact ⟨p, hp, by rw [c]; exact h⟩
    · obtain ⟨a, h0, h1, q⟩ := h.down k hp
      exact isd_all k (k.step hp h0 h1) q e (by omega)
/-- no pair is new: no pair will be -/
theorem dn_stop (k : Kin M N) {t : Nat} (h : ∀ p, InP M N p → Dn M N (t + 1) p → Dn M N t p) : ∀ (v : List Int) (p : Pr), InP M N p → Lt M.ls v → Bad M N (runP M N p v) → Dn M N t p
  | [], p, hp, _, b => (dn_zero.mpr b).mono (Nat.zero_le _)
  | a :: v, p, hp, hv, b => by
    have ha := hv a List.mem_cons_self
    have := dn_stop k h v (stepP M N p a) (k.step hp ha.1 ha.2) (fun z hz => hv z (List.mem_cons_of_mem _ hz)) b
    exact h p hp (dn_succ.mpr (.inr ⟨a, ha.1, ha.2, this⟩))
/-! the outputs of both machines' states, behind words of less than t letters -/
/-- the output behind v from a state of M, or, behind these, of N -/
def outU (M N : Mach) (x : Nat) (v : List Int) : Int := if x < M.rows.length then M.out (M.run x v) else N.out (N.run (x - M.rows.length : Int) v)
theorem runP_pair (p : Pr) : ∀ v : List Int, runP M N p v = (M.run p.1 v, N.run p.2 v) := by
  intro v
  induction v using snoc_ind with
  | h0 => rfl
  | hs v a ih =>
    rw [runP_snoc, ih, run_snoc, run_snoc]
    rfl
theorem few_rounds (k : Kin M N) {d : Nat} {p : Pr} (hp : InP M N p) (h : IsD M N d p) : d + 2 ≤ M.rows.length + N.rows.length := by
  have s1 := k.gm.s1
  refine fine_few (n := M.rows.length + N.rows.length) (d := d + 1) (R := fun t x y => ∀ v, Lt M.ls v → v.length < t → outU M N x v = outU M N y v) (by omega) (fun t => ⟨fun x v _ _ => rfl, fun x y h v a b => (h v a b).symm, fun x y z h1 h2 v a b => (h1 v a b).trans (h2 v a b)⟩)
    (fun t x y h v a b => h v a (by omega)) fun e he => ?_
  obtain ⟨q, hq, i1, i2⟩ := isd_all k hp h e (by omega)
  obtain ⟨⟨a1, a2⟩, a3, a4⟩ := hq
  have ex : ∀ v, outU M N q.1.toNat v = M.out (M.run q.1 v) := fun v => by
    unfold outU
    rw [if_pos (by omega), show ((q.1.toNat : Nat) : Int) = q.1 by omega]
  have ey : ∀ v, outU M N (q.2.toNat + M.rows.length) v = N.out (N.run q.2 v) := fun v => by
    unfold outU
    rw [if_neg (by omega), show (((q.2.toNat + M.rows.length : Nat) : Int) - (M.rows.length : Int)) = q.2 by omega]
  refine ⟨q.1.toNat, q.2.toNat + M.rows.length, by omega, by omega, fun v hv lv => ?_, fun z => ?_⟩
  · rw [ex, ey]
    refine Classical.byContradiction fun ne => ?_
    cases e with
    | zero => exact absurd lv (Nat.not_lt_zero _)
    | succ e => exact i2 e (by omega) ⟨v, hv, by omega, by rw [runP_pair]; exact ne⟩
  · obtain ⟨v, hv, lv, b⟩ := i1
    rw [runP_pair] at b
    have := z v hv (by omega)
    rw [ex, ey] at this
    exact b this
end
end Mz

set_option Elab.async false
set_option linter.all false
set_option maxRecDepth 100000
set_option maxHeartbeats 4000000
/-! the states of one machine that answer alike, by rounds -/
namespace Mz
open PySem PySem.Spec PyProof.Rows L2
/-- alike behind words of at most t letters -/
def RM (M : Mach) (t i j : Nat) : Prop := ∀ v, Lt M.ls v → v.length ≤ t → M.out (M.run i v) = M.out (M.run j v)
/-- alike behind all words -/
def EqM (M : Mach) (i j : Nat) : Prop := ∀ v, Lt M.ls v → M.out (M.run i v) = M.out (M.run j v)
theorem eqv_RM (M : Mach) (n t : Nat) : Eqv n (RM M t) := ⟨fun x v _ _ => rfl, fun x y h v a b => (h v a b).symm, fun x y z h1 h2 v a b => (h1 v a b).trans (h2 v a b)⟩
def LeastOf (R : Nat → Nat → Prop) (i g : Nat) : Prop := g ≤ i ∧ R i g ∧ ∀ j, j < g → ¬ R i j
/-- s tells the least of each class -/
def Rep (R : Nat → Nat → Prop) (n : Nat) (s : List Int) : Prop := s.length = n ∧ ∀ i, i < n → ∃ g : Nat, s[i]? = some (g : Int) ∧ LeastOf R i g
theorem rep_of {α : Type} [DecidableEq α] {l : List α} {R : Nat → Nat → Prop} (h : ∀ (i j : Nat) (x y : α), l[i]? = some x → l[j]? = some y → (x = y ↔ R i j)) : Rep R l.length (l.map (fi l)) := by
  refine ⟨List.length_map .., fun i hi => ?_⟩
  have ei := List.getElem?_eq_getElem hi
  have hex : ∃ y ∈ l, decide (y = l[i]) = true := ⟨l[i], List.getElem_mem hi, decide_eq_true rfl⟩
  have lt : l.findIdx (fun y => decide (y = l[i])) < l.length := List.findIdx_lt_length_of_exists hex
  have at_ : l[l.findIdx (fun y => decide (y = l[i]))] = l[i] := of_decide_eq_true (List.findIdx_getElem (w := lt))
  refine ⟨l.findIdx fun y => decide (y = l[i]), by rw [List.getElem?_map, ei]; rfl, ?_, ?_, fun j hj r => ?_⟩
  · refine Nat.le_of_not_lt fun c => ?_
    have := List.not_of_lt_findIdx c
    simp at this
  · exact (h i _ _ _ ei (List.getElem?_eq_getElem lt)).mp at_.symm
  · have jl : j < l.length := by omega
    have e := (h i j _ _ ei (List.getElem?_eq_getElem jl)).mpr r
    have := List.not_of_lt_findIdx hj
    simp at this
    exact this e.symm
theorem rep_eq {n : Nat} {R : Nat → Nat → Prop} {s : List Int} (E : Eqv n R) (r : Rep R n s) {i j : Nat} (hi : i < n) (hj : j < n) : s.getD i 0 = s.getD j 0 ↔ R i j := by
  obtain ⟨g, e1, l1, q1, m1⟩ := r.2 i hi
  obtain ⟨k, e2, l2, q2, m2⟩ := r.2 j hj
  rw [List.getD_eq_getElem?_getD, List.getD_eq_getElem?_getD, e1, e2]
  constructor
  · intro h
    have h : (g : Int) = k := h
    have h : g = k := by omega
    subst h
    exact E.trans _ _ _ q1 (E.symm _ _ q2)
  · intro h
    show (g : Int) = k
    have : g = k := by
      by_cases c : g < k
      · exact absurd (E.trans _ _ _ (E.symm _ _ h) q1) (m2 g c)
      · by_cases c2 : k < g
        · exact absurd (E.trans _ _ _ h q2) (m1 k c2)
        · omega
    rw [this]
theorem rep_uniq {n : Nat} {R : Nat → Nat → Prop} {s u : List Int} (a : Rep R n s) (b : Rep R n u) : s = u := by
  apply List.ext_getElem? 
  intro i
  by_cases h : i < n
  · obtain ⟨g, e1, l1, q1, m1⟩ := a.2 i h
    obtain ⟨k, e2, l2, q2, m2⟩ := b.2 i h
    have : g = k := by
      by_cases c : g < k
      · exact absurd q1 (m2 g c)
      · by_cases c2 : k < g
        · exact absurd q2 (m1 k c2)
        · omega
    rw [e1, e2, this]
  · rw [List.getElem?_eq_none (by rw [a.1]; omega), List.getElem?_eq_none (by rw [b.1]; omega)]
theorem rep_mono {n : Nat} {R S : Nat → Nat → Prop} {s : List Int} (h : ∀ i j, i < n → j < n → (R i j ↔ S i j)) (r : Rep R n s) : Rep S n s := by
  refine ⟨r.1, fun i hi => ?_⟩
  obtain ⟨g, e, l, q, m⟩ := r.2 i hi
  exact ⟨g, e, l, (h i g hi (by omega)).mp q, fun j hj z => m j hj ((h i j hi (by omega)).mpr z)⟩
/-! ### one round -/
theorem RM_zero {M : Mach} {i j : Nat} : RM M 0 i j ↔ M.out i = M.out j := by
  constructor
  · intro h
    exact h [] (fun z hz => absurd hz (by simp)) (Nat.le_refl _)
  · intro h v _ lv
    have : v = [] := List.length_eq_zero_iff.mp (by omega)
    subst this
    exact h
theorem RM_succ {M : Mach} (g : Good M) {t i j : Nat} (hi : M.St i) (hj : M.St j) : RM M (t + 1) i j ↔ RM M t i j ∧ ∀ a, 0 ≤ a → a < M.ls → RM M t (M.next i a).toNat (M.next j a).toNat := by
  have back : ∀ {k : Nat} {a : Int}, M.St k → 0 ≤ a → a < M.ls → (((M.next k a).toNat : Nat) : Int) = M.next k a := fun {k a} hk h0 h1 => by
    have := (g.step hk h0 h1).1.1
    omega
  constructor
  · intro h
    refine ⟨fun v a b => h v a (by omega), fun a h0 h1 v hv lv => ?_⟩
    rw [back hi h0 h1, back hj h0 h1]
    refine h (a :: v) (fun z hz => ?_) (by rw [List.length_cons]; omega)
    rcases List.mem_cons.mp hz with e | e
    · rw [e]
      exact ⟨h0, h1⟩
    · exact hv z e
  · rintro ⟨h1, h2⟩ v hv lv
    cases v with
    | nil => exact h1 [] hv (Nat.zero_le _)
    | cons a v =>
      have ha := hv a List.mem_cons_self
      have := h2 a ha.1 ha.2 v (fun z hz => hv z (List.mem_cons_of_mem _ hz)) (by rw [List.length_cons] at lv; omega)
      rw [back hi ha.1 ha.2, back hj ha.1 ha.2] at this
      exact this
/-- the marks of a round -/
def markOf (M : Mach) (s : List Int) (i : Nat) : PK := (s.getD i 0, (M.rows.getD i []).map fun z => s.getD z.toNat 0)
theorem mark_eq {M : Mach} (g : Good M) {s : List Int} {t : Nat} (r : Rep (RM M t) M.rows.length s) {i j : Nat} (hi : i < M.rows.length) (hj : j < M.rows.length) : markOf M s i = markOf M s j ↔ RM M (t + 1) i j := by
  have si : M.St i := ⟨by omega, by omega⟩
  have sj : M.St j := ⟨by omega, by omega⟩
  have E := eqv_RM M M.rows.length t
  have row : ∀ {k : Nat}, k < M.rows.length → M.rows.getD k [] ∈ M.rows := fun {k} hk => by
    rw [List.getD_eq_getElem?_getD, List.getElem?_eq_getElem hk]
    exact List.getElem_mem hk
  have nx : ∀ {k : Nat} (a : Nat), (a : Int) < M.ls → k < M.rows.length → ((M.rows.getD k []).map fun z => s.getD z.toNat 0)[a]? = some (s.getD (M.next k a).toNat 0) ∧ (M.next k a).toNat < M.rows.length := fun {k} a ha hk => by
    have hk2 : M.St k := ⟨by omega, by omega⟩
    obtain ⟨st, w, e1, e2⟩ := g.step hk2 (show (0 : Int) ≤ a by omega) ha
    have e3 : M.rows.getD k [] = w := by
      rw [List.getD_eq_getElem?_getD]
      rw [show ((k : Int)).toNat = k by omega] at e1
      rw [e1]
      rfl
    rw [show ((a : Int)).toNat = a by omega] at e2
    refine ⟨by rw [e3, List.getElem?_map, e2]; rfl, ?_⟩
    have := st.1
    have := st.2
    omega
  rw [RM_succ g si sj]
  unfold markOf
  constructor
  · intro h
    injection h with h1 h2
    refine ⟨(rep_eq E r hi hj).mp h1, fun a h0 h3 => ?_⟩
    have a1 : (a.toNat : Int) < M.ls := by omega
    have q1 := nx a.toNat a1 hi
    have q2 := nx a.toNat a1 hj
    rw [show ((a.toNat : Nat) : Int) = a by omega] at q1 q2
    rw [h2, q2.1] at q1
    exact (rep_eq E r q1.2 q2.2).mp (Option.some.inj q1.1).symm
  · rintro ⟨h1, h2⟩
    refine Prod.ext ((rep_eq E r hi hj).mpr h1) ?_
    have li := g.rl _ (row hi)
    have lj := g.rl _ (row hj)
    apply List.ext_getElem?
    intro a
    by_cases c : (a : Int) < M.ls
    · have q1 := nx a c hi
      have q2 := nx a c hj
      show ((M.rows.getD i []).map fun z => s.getD z.toNat 0)[a]? = ((M.rows.getD j []).map fun z => s.getD z.toNat 0)[a]?
      rw [q1.1, q2.1, (rep_eq E r q1.2 q2.2).mpr (h2 a (by omega) c)]
    · rw [List.getElem?_eq_none (by rw [List.length_map]; omega), List.getElem?_eq_none (by rw [List.length_map]; omega)]
/-- a round that brings nothing: all is told -/
theorem stop_all {M : Mach} (g : Good M) {t : Nat} (h : ∀ i j, i < M.rows.length → j < M.rows.length → RM M t i j → RM M (t + 1) i j) : ∀ (v : List Int) (i j : Nat), i < M.rows.length → j < M.rows.length → RM M t i j → Lt M.ls v → M.out (M.run i v) = M.out (M.run j v)
  | [], i, j, hi, hj, r, _ => r [] (fun z hz => absurd hz (by simp)) (Nat.zero_le _)
  | a :: v, i, j, hi, hj, r, hv => by
    have si : M.St i := ⟨by omega, by omega⟩
    have sj : M.St j := ⟨by omega, by omega⟩
    have ha := hv a List.mem_cons_self
    have n1 := (g.step si ha.1 ha.2).1
    have n2 := (g.step sj ha.1 ha.2).1
    have q := ((RM_succ g si sj).mp (h i j hi hj r)).2 a ha.1 ha.2
    have := stop_all g h v _ _ (by have := n1.1; have := n1.2; omega) (by have := n2.1; have := n2.2; omega) q fun z hz => hv z (List.mem_cons_of_mem _ hz)
    rw [show (((M.next i a).toNat : Nat) : Int) = M.next i a by have := n1.1; omega, show (((M.next j a).toNat : Nat) : Int) = M.next j a by have := n2.1; omega] at this
    exact this
end Mz

set_option Elab.async false
set_option linter.all false
set_option maxRecDepth 100000
set_option maxHeartbeats 4000000
namespace K63
open PySem PySem.Spec PyProof.Rows L2 Mz
/-! ### rounds -/
def RT (M : TM) : Nat → Nat → Nat → Prop
  | 0, x, y => outO M (x : Int) = outO M (y : Int)
  | t + 1, x, y => RT M t x y ∧ ∀ s, s < M.rs.length → ∀ o ∈ afK M s, RT M t (M.to s ((x : Int) :: o)).toNat (M.to s ((y : Int) :: o)).toNat ∧ RT M t (M.to s (o ++ [(x : Int)])).toNat (M.to s (o ++ [(y : Int)])).toNat
theorem eqv_RT (M : TM) (n : Nat) : ∀ t, Eqv n (RT M t)
  | 0 => ⟨fun _ => rfl, fun _ _ h => Eq.symm h, fun _ _ _ h g => Eq.trans h g⟩
  | t + 1 => ⟨fun x => ⟨(eqv_RT M n t).refl x, fun s _ o _ => ⟨(eqv_RT M n t).refl _, (eqv_RT M n t).refl _⟩⟩, fun x y h => ⟨(eqv_RT M n t).symm _ _ h.1, fun s hs o ho => ⟨(eqv_RT M n t).symm _ _ (h.2 s hs o ho).1, (eqv_RT M n t).symm _ _ (h.2 s hs o ho).2⟩⟩,
      fun x y z h g => ⟨(eqv_RT M n t).trans _ _ _ h.1 g.1, fun s hs o ho => ⟨(eqv_RT M n t).trans _ _ _ (h.2 s hs o ho).1 (g.2 s hs o ho).1, (eqv_RT M n t).trans _ _ _ (h.2 s hs o ho).2 (g.2 s hs o ho).2⟩⟩⟩
theorem rgL_mem {n : Nat} {k : Int} : k ∈ rgL n ↔ 0 ≤ k ∧ k < (n : Int) := by
  unfold rgL
  constructor
  · intro h
    obtain ⟨i, hi, rfl⟩ := List.mem_map.1 h
    have := List.mem_range.1 hi
    exact ⟨by omega, by omega⟩
  · rintro ⟨h0, h1⟩
    exact List.mem_map.2 ⟨k.toNat, List.mem_range.2 (by omega), by omega⟩
theorem afK_mem {M : TM} (g : GoodT M) {s : Nat} (hs : s < M.rs.length) {o : List Int} : o ∈ afK M s ↔ o.length + 1 = (M.rank (s : Int)).toNat ∧ ∀ k ∈ o, Rg M k := by
  obtain ⟨r0, r3⟩ := rank_rg g hs
  unfold afK
  by_cases c : M.rank (s : Int) = 0
  · rw [if_pos c]
    constructor
    · intro h
      cases h
    · rintro ⟨h, _⟩
      rw [c] at h
      cases h
  · rw [if_neg c, kidsL_mem]
    constructor
    · rintro ⟨h1, h2⟩
      exact ⟨by omega, fun k hk => rgL_mem.1 (h2 k hk)⟩
    · rintro ⟨h1, h2⟩
      exact ⟨by omega, fun k hk => rgL_mem.2 (h2 k hk)⟩
theorem ctx_rg {M : TM} (g : GoodT M) {s : Nat} (hs : s < M.rs.length) {o : List Int} (ho : o ∈ afK M s) {x : Int} (hx : Rg M x) : Rg M (M.to s (x :: o)) ∧ Rg M (M.to s (o ++ [x])) := by
  obtain ⟨l, m⟩ := (afK_mem g hs).1 ho
  refine ⟨KR.to_ g ⟨hs, by rw [List.length_cons]; exact l, fun k hk => ?_⟩, KR.to_ g ⟨hs, by rw [List.length_append]; exact l, fun k hk => ?_⟩⟩
  · rcases List.mem_cons.1 hk with e | e
    · rw [e]; exact hx
    · exact m k e
  · rcases List.mem_append.1 hk with e | e
    · exact m k e
    · rw [List.mem_singleton.1 e]; exact hx
theorem flat_eq {α β : Type} (f g : α → List β) : ∀ xs : List α, (∀ x ∈ xs, (f x).length = (g x).length) → (xs.flatMap f = xs.flatMap g ↔ ∀ x ∈ xs, f x = g x)
  | [], _ => ⟨fun _ x h => (by cases h), fun _ => rfl⟩
  | a :: xs, h => by
    have ih := flat_eq f g xs fun x hx => h x (List.mem_cons_of_mem _ hx)
    rw [List.flatMap_cons, List.flatMap_cons]
    constructor
    · intro e x hx
      obtain ⟨e1, e2⟩ := List.append_inj e (h a List.mem_cons_self)
      rcases List.mem_cons.1 hx with z | z
      · rw [z]; exact e1
      · exact ih.1 e2 x z
    · intro e
      rw [e a List.mem_cons_self, ih.2 fun x hx => e x (List.mem_cons_of_mem _ hx)]
def markT (M : TM) (S : List Int) (x : Nat) : PK := (gS S (x : Int), afL M S (x : Int) M.rs.length)
theorem mark_eqT {M : TM} (g : GoodT M) {t : Nat} {S : List Int} (r : Rep (RT M t) M.outs.length S) {x y : Nat} (hx : x < M.outs.length) (hy : y < M.outs.length) : markT M S x = markT M S y ↔ RT M (t + 1) x y := by
  have E := eqv_RT M M.outs.length t
  have nn : M.n = (M.outs.length : Int) := rfl
  have ge : ∀ p q : Int, Rg M p → Rg M q → (gS S p = gS S q ↔ RT M t p.toNat q.toNat) := fun p q hp hq => rep_eq E r (by have := hp.2; have := hp.1; omega) (by have := hq.2; have := hq.1; omega)
  have rx : Rg M (x : Int) := ⟨by omega, by omega⟩
  have ry : Rg M (y : Int) := ⟨by omega, by omega⟩
  have lc : ∀ s o, (ctxL M S (x : Int) s o).length = (ctxL M S (y : Int) s o).length := fun _ _ => rfl
  have e1 : markT M S x = markT M S y ↔ gS S (x : Int) = gS S (y : Int) ∧ afL M S (x : Int) M.rs.length = afL M S (y : Int) M.rs.length := Prod.mk.injEq _ _ _ _ ▸ Iff.rfl
  rw [e1, ge _ _ rx ry]
  unfold afL
  rw [flat_eq _ _ _ fun s _ => by rw [List.length_flatMap, List.length_flatMap]; exact congrArg List.sum (List.map_congr_left fun o _ => lc s o)]
  have e2 : ∀ s, s < M.rs.length → ((afK M s).flatMap (ctxL M S (x : Int) s) = (afK M s).flatMap (ctxL M S (y : Int) s) ↔ ∀ o ∈ afK M s, RT M t (M.to s ((x : Int) :: o)).toNat (M.to s ((y : Int) :: o)).toNat ∧ RT M t (M.to s (o ++ [(x : Int)])).toNat (M.to s (o ++ [(y : Int)])).toNat) := fun s hs => by
    rw [flat_eq _ _ _ fun o _ => lc s o]
    constructor
    · intro h o ho
      have := h o ho
      unfold ctxL at this
      obtain ⟨a1, a2⟩ := ctx_rg g hs ho rx
      obtain ⟨b1, b2⟩ := ctx_rg g hs ho ry
      injection this with h1 h2
      injection h2 with h2 _
      exact ⟨(ge _ _ a1 b1).1 h1, (ge _ _ a2 b2).1 h2⟩
    · intro h o ho
      obtain ⟨h1, h2⟩ := h o ho
      obtain ⟨a1, a2⟩ := ctx_rg g hs ho rx
      obtain ⟨b1, b2⟩ := ctx_rg g hs ho ry
      unfold ctxL
      rw [(ge _ _ a1 b1).2 h1, (ge _ _ a2 b2).2 h2]
  show _ ↔ RT M t x y ∧ _
  refine and_congr Iff.rfl ⟨fun h s hs => (e2 s hs).1 (h s (List.mem_range.2 hs)), fun h s hs => (e2 s (List.mem_range.1 hs)).2 (h s (List.mem_range.1 hs))⟩
/-- closed under one-place contexts, respecting outputs -/
structure Cong1 (M : TM) (E : Int → Int → Prop) : Prop where
  out : ∀ p q, Rg M p → Rg M q → E p q → outO M p = outO M q
  ctx : ∀ p q, Rg M p → Rg M q → E p q → ∀ s, s < M.rs.length → ∀ o ∈ afK M s, E (M.to s (p :: o)) (M.to s (q :: o)) ∧ E (M.to s (o ++ [p])) (M.to s (o ++ [q]))
theorem cong_RT {M : TM} (g : GoodT M) {E : Int → Int → Prop} (C : Cong1 M E) : ∀ t p q, Rg M p → Rg M q → E p q → RT M t p.toNat q.toNat
  | 0, p, q, hp, hq, h => by
    show outO M ((p.toNat : Nat) : Int) = outO M ((q.toNat : Nat) : Int)
    rw [Int.toNat_of_nonneg hp.1, Int.toNat_of_nonneg hq.1]
    exact C.out p q hp hq h
  | t + 1, p, q, hp, hq, h => by
    refine ⟨cong_RT g C t p q hp hq h, fun s hs o ho => ?_⟩
    rw [Int.toNat_of_nonneg hp.1, Int.toNat_of_nonneg hq.1]
    obtain ⟨c1, c2⟩ := C.ctx p q hp hq h s hs o ho
    obtain ⟨a1, a2⟩ := ctx_rg g hs ho hp
    obtain ⟨b1, b2⟩ := ctx_rg g hs ho hq
    exact ⟨cong_RT g C t _ _ a1 b1 c1, cong_RT g C t _ _ a2 b2 c2⟩
/-- a round that brings nothing -/
theorem stop_cong {M : TM} (g : GoodT M) {t : Nat} (h : ∀ x y, x < M.outs.length → y < M.outs.length → RT M t x y → RT M (t + 1) x y) : Cong1 M fun p q => RT M t p.toNat q.toNat := by
  have base : ∀ t x y, RT M t x y → RT M 0 x y := fun t => by
    induction t with
    | zero => exact fun x y h => h
    | succ t ih => exact fun x y h => ih x y h.1
  have nn : M.n = (M.outs.length : Int) := rfl
  refine ⟨fun p q hp hq e => ?_, fun p q hp hq e s hs o ho => ?_⟩
  · have := base t _ _ e
    have : outO M ((p.toNat : Nat) : Int) = outO M ((q.toNat : Nat) : Int) := this
    rwa [Int.toNat_of_nonneg hp.1, Int.toNat_of_nonneg hq.1] at this
  · have := (h p.toNat q.toNat (by have := hp.2; have := hp.1; omega) (by have := hq.2; have := hq.1; omega) e).2 s hs o ho
    rwa [Int.toNat_of_nonneg hp.1, Int.toNat_of_nonneg hq.1] at this
def spClasses : Sp := fun vs H Q _ => ∃ (m : Addr) (M : TM), vs = [.ref m] ∧ TMA H m M ∧ GoodT M ∧ ∀ (H' : Hp) (p : Addr) (S : List Int) (t : Nat), Same H H' → H p = none → H' p = some (.lst (S.map V.int)) → Rep (RT M t) M.outs.length S → (∀ x y, x < M.outs.length → y < M.outs.length → RT M t x y → RT M (t + 1) x y) → Q (.ref p) H'
theorem paired_snoc {α β : Type} {F : α → β → Prop} : ∀ {l1 : List α} {l2 : List β} {x : α} {y : β}, Paired F l1 l2 → F x y → Paired F (l1 ++ [x]) (l2 ++ [y])
  | _, _, _, _, .nil, h => .cons h .nil
  | _, _, _, _, .cons a t, h => .cons a (paired_snoc t h)
end K63

set_option Elab.async false
set_option linter.all false
set_option maxRecDepth 100000
set_option maxHeartbeats 4000000
namespace K63
open PySem PySem.Spec PyProof.Rows L2 Mz
section
variable {P : Program} {w : World} {K : PySem.W.Frag} {mg : Str → Option Value} {base : Heap} {A : Ads} {c Pt : Addr}
theorem ok_classes (T : Txt K mg A) : FnOk P w K mg base CX0 3 A.a_classes A.d_classes ["machine"] spClasses := by
  refine T.F_classes.ok sc_classes (fun vs H Q E h => ?_) (fun cdv Ar outer s H vs Q E hr h => ?_)
  · obtain ⟨_, _, rfl, _⟩ := h
    rfl
  · have G_first_places : FnOk P w K mg base CX0 1 A.a_first_places A.d_first_places ["marks"] (spPlaces K) := ok_places T
    have hr_first_places : Room 1 (Ar.deeper (envOfC "_classes" (C8.fnScope s_classes) s.heap.objs.size A.a_classes cdv)) := hr.mono (by omega)
    have G_afters := ok_afters (P := P) (w := w) (base := base) T
    have hr_afters : Room 2 (Ar.deeper (envOfC "_classes" (C8.fnScope s_classes) s.heap.objs.size A.a_classes cdv)) := hr
    refine ⟨_, (pss_cons (ps_set (i := 1) sc_classes.nd rfl (Or.inr rfl) (pe_call G_first_places hr_first_places (by rfl) T.g_first_places T.F_first_places.kp T.b_first_places .nil pass0 (pa_cons (pe_ix (r := rIx K) ix_seq (pv 0) pe_int (fun _ _ => rfl)) pa_nil)))
      (pss_one (ps_while PassesOwn.never (pt_val pe_bl) (pss_cons (ps_setLc (i := 2) (own := [("state", 4)]) (g := (gName 4)) (tt := tYes) rfl sc_classes.nd rfl rfl (sw_true rfl rfl rfl (by decide +kernel)) (pi_range1 (by rfl) T.n_range (pa_cons (pe_callB call_len_seq (by rfl) T.n_len PySem.boot_len (pa_cons (pv 1) pa_nil)) pa_nil)) (blkOk_by (N := ["machine", "same", "marks", "finer", "state"]) (sc := defScope s_classes) (by decide +kernel)) (fun _ _ _ _ _ => (pg_name (i := 4) sc_classes.nd rfl (Or.inl rfl))) (fun _ _ _ _ _ => pts_nil) (fun _ _ _ _ _ => (pe_tup (pa_cons (pe_ix (r := rIx K) ix_seq (pv 1) (pv 4) (fun _ _ => rfl)) (pa_cons (pe_call G_afters hr_afters (by rfl) T.g_afters T.F_afters.kp T.b_afters .nil pass0 (pa_cons (pv 0) (pa_cons (pv 1) (pa_cons (pv 4) pa_nil)))) pa_nil)))))
          (pss_cons (ps_set (i := 3) sc_classes.nd rfl (Or.inl rfl) (pe_call G_first_places hr_first_places (by rfl) T.g_first_places T.F_first_places.kp T.b_first_places .nil pass0 (pa_cons (pv 2) pa_nil)))
          (pss_cons (ps_if (pt_cmpR (op_eqD hr.units) (pv 3) (pv 1) (nomark _)) (pss_one (ps_ret (pv 1))) pss_nil)
          (pss_one (ps_set (i := 1) sc_classes.nd rfl (Or.inr rfl) (pv 3))))))))), ?_⟩
    obtain ⟨m, M, rfl, hMA, g, fin⟩ := h
    obtain ⟨r, ru, ou, qs, hM⟩ := id hMA
    have n6 := g.n6
    have n1 := g.n1
    have nn : M.n = (M.outs.length : Int) := rfl
    refine ⟨_, rfl, .inr (.inl ⟨m, _, 3, .ref ou, rfl, rfl, SqT.of hM.top, rfl, ?_⟩)⟩
    refine ⟨ou, _, _, rfl, .mi M.outs (.inr (SqT.of hM.ou)), by rw [List.length_map]; omega, fun H1 p1 s1 f1 e1 => ?_⟩
    have r0 : Rep (RT M 0) M.outs.length (firsts M.outs) := rep_of (l := M.outs) (R := RT M 0) fun i j x y hx hy => by
      show _ ↔ outO M (i : Int) = outO M (j : Int)
      unfold outO
      rw [Int.toNat_natCast, Int.toNat_natCast, List.getD_eq_getElem?_getD, List.getD_eq_getElem?_getD, hx, hy]
      exact Iff.rfl
    refine ⟨fun k σ H' => ∃ (t : Nat) (p : Addr) (S : List Int) (v3 v4 : Option V), k = M.outs.length - cnt M.outs.length (RT M t) ∧ σ = [some (.ref m), some (.ref p), v3, v4, none] ∧ Same H H' ∧ H p = none ∧ H' p = some (.lst (S.map V.int)) ∧ Rep (RT M t) M.outs.length S,
      ⟨_, 0, p1, firsts M.outs, none, none, rfl, rfl, s1, f1, e1, r0⟩, ?_⟩
    rintro k σ H2 ⟨t, p, S, v3, v4, rfl, rfl, s2, fp, ep, rS⟩
    refine ⟨_, rfl, ?_⟩
    refine ifDT rfl ⟨fun σ' H' => ∃ (p' : Addr) (S' : List Int) (v3 v4 : Option V), σ' = [some (.ref m), some (.ref p'), v3, v4, none] ∧ Same H H' ∧ H p' = none ∧ H' p' = some (.lst (S'.map V.int)) ∧ Rep (RT M (t + 1)) M.outs.length S' ∧ cnt M.outs.length (RT M t) < cnt M.outs.length (RT M (t + 1)),
      fun σ' H' ⟨p', S', v3, v4, q1, q2, q3, q4, q5, q6⟩ => ⟨M.outs.length - cnt M.outs.length (RT M (t + 1)), by have := cnt_le M.outs.length (RT M (t + 1)); omega, t + 1, p', S', v3, v4, rfl, q1, q2, q3, q4, q5⟩, ?_⟩
    have hM2 := hMA.same s2
    have lS : S.length = M.outs.length := rS.1
    refine ⟨_, rfl, p, _, rfl, .inl (SqL.of ep), ?_⟩
    rw [show (S.map V.int).length = M.outs.length by rw [List.length_map]; exact lS]
    refine ⟨(M.outs.length : Int), rfl, by omega, by omega, fun D hD => ?_⟩
    have fD : H D = none := s2.free hD
    refine lc_range (fun i H' => ∃ as : List Addr, H' D = some (.lst (as.map V.ref)) ∧ as.length = i ∧ Same H2 H' ∧ Paired (fun b q => KeyAt H' b q) as ((List.range i).map (markT M S)))
      ⟨[], upd_same, rfl, same_upd (Same.refl _) hD, .nil⟩ ?_ ?_
    · rintro i H3 hi ⟨as, e1, e2, z, kk⟩
      have hi : i < M.outs.length := hi
      have ep3 := z _ _ ep
      have ga : atI (S.map V.int) ((0 : Int) + (i : Int)) = some (.int (gS S (i : Int))) := atI_get? (by omega) (by
        rw [show ((0 : Int) + (i : Int)).toNat = i by omega]
        unfold gS
        rw [Int.toNat_natCast, List.getD_eq_getElem?_getD, List.getElem?_eq_getElem (by omega)]
        rfl)
      refine ⟨rfl, ?_⟩
      refine ⟨_, rfl, _, rfl, .inl ⟨p, _, _, _, rfl, rfl, SqL.of ep3, ga, ?_⟩⟩
      refine ⟨_, rfl, _, rfl, _, rfl, m, p, M, S, (0 : Int) + (i : Int), rfl, hM2.same z, g, ep3, lS, ⟨by omega, by omega⟩, fun H4 b s4 eb => ?_⟩
      rw [Int.zero_add] at eb
      refine ⟨(by show 2 ≤ sizeLine; decide), fun q hq => ?_⟩
      have s5 := same_upd (o := .tup [.int (gS S (i : Int)), .ref b]) s4 hq
      have s6 := same_upd (o := .tup [.int (gS S (i : Int)), .ref b]) (Same.refl H4) hq
      have eb5 := s6 _ _ eb
      have eq : (upd H4 q (.tup [.int (gS S (i : Int)), .ref b])) q = some (.tup [.int (gS S (i : Int)), .ref b]) := upd_same
      have e5 := s5 _ _ e1
      generalize upd H4 q (.tup [.int (gS S (i : Int)), .ref b]) = H5 at *
      refine ⟨_, e5, Nat.lt_of_le_of_lt (by rw [List.length_map]; omega : _ ≤ 6) (by decide), as ++ [q], by rw [upd_same, List.map_append]; rfl, by rw [List.length_append, e2]; rfl, same_set (z.trans s5) hD, ?_⟩
      have keep : ∀ {c : Addr} {pk : PK}, KeyAt H5 c pk → KeyAt (upd H5 D (.lst (as.map V.ref ++ [.ref q]))) c pk := fun {c pk} ⟨d, k1, k2⟩ =>
        ⟨d, by rw [upd_ne fun zz => by rw [zz, e5] at k1; cases k1]; exact k1, by rw [upd_ne fun zz => by rw [zz, e5] at k2; cases k2]; exact k2⟩
      rw [List.range_succ, List.map_append]
      exact paired_snoc (Paired.mapP kk fun _ _ k => keep (k.same s5)) (keep ⟨b, eq, eb5⟩)
    · rintro H3 ⟨as, e1, e2, z, kk⟩
      have en : ((M.outs.length : Nat) : Int).toNat = M.outs.length := Int.toNat_natCast _
      rw [en] at e2 kk
      have s23 := s2.trans z
      refine ⟨_, rfl, D, _, _, rfl, .mp as _ (SqL.of e1) kk, by rw [List.length_map]; omega, fun H4 p4 z4 f4 e4 => ?_⟩
      have rF : Rep (RT M (t + 1)) M.outs.length (firsts ((List.range M.outs.length).map (markT M S))) := by
        have r := rep_of (l := (List.range M.outs.length).map (markT M S)) (R := RT M (t + 1)) fun i j x y hx hy => ?_
        · rw [List.length_map, List.length_range] at r
          exact r
        · have li := (List.getElem?_eq_some_iff.mp hx).1
          have lj := (List.getElem?_eq_some_iff.mp hy).1
          rw [List.length_map, List.length_range] at li lj
          rw [List.getElem?_map, List.getElem?_range li] at hx
          rw [List.getElem?_map, List.getElem?_range lj] at hy
          cases hx
          cases hy
          exact mark_eqT g rS li lj
      have ep4 := z4 _ _ (z _ _ ep)
      refine ⟨_, rfl, _, rfl, eq_lists (SqL.of e4) (SqL.of ep4) ⟨_, rfl, ?_⟩⟩
      have fine : ∀ x y, RT M (t + 1) x y → RT M t x y := fun x y h => h.1
      refine ite2 (fun c => ?_) (fun c => ?_)
      · have c := of_decide_eq_true c
        refine ⟨_, rfl, fin H4 p S t (s23.trans z4) fp ep4 rS fun x y hx hy h => ?_⟩
        rw [c] at rF
        exact (rep_eq (eqv_RT M M.outs.length (t + 1)) rF hx hy).mp ((rep_eq (eqv_RT M M.outs.length t) rS hx hy).mpr h)
      · refine ⟨_, rfl, p4, _, _, _, rfl, s23.trans z4, s23.free f4, e4, rF, cnt_lt (eqv_RT M M.outs.length t) (eqv_RT M M.outs.length (t + 1)) fine (Classical.byContradiction fun no => c (decide_eq_true ?_))⟩
        refine rep_uniq rF (rep_mono (fun i j hi hj => ⟨fun h => ?_, fine i j⟩) rS)
        exact Classical.byContradiction fun n => no ⟨i, j, hi, hj, h, n⟩
end
end K63

set_option Elab.async false
set_option linter.all false
set_option maxRecDepth 100000
set_option maxHeartbeats 4000000
namespace K63
open PySem PySem.Spec PyProof.Rows L2 Mz
/-! ### homomorphisms of kept states -/
def AllR (M : TM) : Prop := ∀ p, Rg M p → Reach M p
def Parted (M : TM) : Prop := ∀ E : Int → Int → Prop, Cong1 M E → ∀ p q, Rg M p → Rg M q → E p q → p = q
theorem kept_hom {M : TM} {ss : List Int} {num : Int → Int} (n0 : 0 < ss.length) (hn : ∀ p, Reach M p → 0 ≤ num p ∧ num p < (ss.length : Int)) (ho : ∀ p, Reach M p → outO M (ss.getD (num p).toNat 0) = outO M p)
    (ht : ∀ s ks, KR M (Reach M) s ks → num (M.to s (ks.map fun k => ss.getD (num k).toNat 0)) = num (M.to s ks)) : Hom M (keptM M ss num) num := by
  refine ⟨rfl, rfl, fun p hp => ?_, fun p hp => ?_, fun s ks hk => ?_⟩
  · obtain ⟨h0, h1⟩ := hn p hp
    exact ⟨h0, by rw [kept_n]; exact h1⟩
  · obtain ⟨h0, h1⟩ := hn p hp
    rw [← ho p hp]
    have l : (num p).toNat < ss.length := by omega
    show (ss.map (outO M)).getD (num p).toNat 0 = outO M (ss.getD (num p).toNat 0)
    rw [List.getD_eq_getElem?_getD, List.getD_eq_getElem?_getD, List.getElem?_map, List.getElem?_eq_getElem l]
    rfl
  · rw [kept_to n0 hk.lt (by rw [List.length_map]; exact hk.len) (fun j hj => ?_), List.map_map]
    · exact ht s ks hk
    · obtain ⟨k, hk', rfl⟩ := List.mem_map.1 hj
      exact hn k (hk.dom k hk')
theorem Hom.rk {M M' : TM} {h : Int → Int} (H : Hom M M' h) : M'.rs.length = M.rs.length := by rw [H.rs]
/-- E behind a homomorphism -/
theorem Hom.cong {M M' : TM} {h : Int → Int} (g : GoodT M) (g' : GoodT M') (H : Hom M M' h) (all : AllR M) {E : Int → Int → Prop} (C : Cong1 M' E) : Cong1 M fun p q => E (h p) (h q) := by
  refine ⟨fun p q hp hq e => ?_, fun p q hp hq e s hs o ho => ?_⟩
  · rw [← H.out p (all p hp), ← H.out q (all q hq)]
    exact C.out _ _ (H.dom p (all p hp)) (H.dom q (all q hq)) e
  · obtain ⟨l, m⟩ := (afK_mem g hs).1 ho
    have hs' : s < M'.rs.length := by rw [H.rs]; exact hs
    have ho' : o.map h ∈ afK M' s := (afK_mem g' hs').2 ⟨by rw [List.length_map, H.rank]; exact l, fun k hk => by
      obtain ⟨z, hz, rfl⟩ := List.mem_map.1 hk
      exact H.dom z (all z (m z hz))⟩
    obtain ⟨c1, c2⟩ := C.ctx (h p) (h q) (H.dom p (all p hp)) (H.dom q (all q hq)) e s hs' _ ho'
    have kr1 : ∀ x, Rg M x → KR M (Reach M) s (x :: o) := fun x hx => ⟨hs, by rw [List.length_cons]; exact l, fun k hk => by
      rcases List.mem_cons.1 hk with z | z
      · rw [z]; exact all x hx
      · exact all k (m k z)⟩
    have kr2 : ∀ x, Rg M x → KR M (Reach M) s (o ++ [x]) := fun x hx => ⟨hs, by rw [List.length_append]; exact l, fun k hk => by
      rcases List.mem_append.1 hk with z | z
      · exact all k (m k z)
      · rw [List.mem_singleton.1 z]; exact all x hx⟩
    have e1 : ∀ x, Rg M x → M'.to s (h x :: o.map h) = h (M.to s (x :: o)) := fun x hx => H.to s _ (kr1 x hx)
    have e2 : ∀ x, Rg M x → M'.to s (o.map h ++ [h x]) = h (M.to s (o ++ [x])) := fun x hx => by
      rw [← H.to s _ (kr2 x hx), List.map_append]
      rfl
    rw [e1 p hp, e1 q hq] at c1
    rw [e2 p hp, e2 q hq] at c2
    exact ⟨c1, c2⟩
theorem Hom.parted {M M' : TM} {h : Int → Int} (g : GoodT M) (g' : GoodT M') (H : Hom M M' h) (all : AllR M) (all' : AllR M') (k : ∀ E, Cong1 M E → ∀ p q, Rg M p → Rg M q → E p q → h p = h q) : Parted M' := by
  intro E C a b ha hb e
  obtain ⟨p, rp, rfl⟩ := H.onto (all' a ha)
  obtain ⟨q, rq, rfl⟩ := H.onto (all' b hb)
  exact k _ (H.cong g g' all C) p q (rp.rg g) (rq.rg g) e
/-- the kernel of a homomorphism is closed -/
theorem Hom.ker {M M' : TM} {h : Int → Int} (g : GoodT M) (H : Hom M M' h) (all : AllR M) : Cong1 M fun p q => h p = h q := by
  refine ⟨fun p q hp hq e => ?_, fun p q hp hq e s hs o ho => ?_⟩
  · rw [← H.out p (all p hp), ← H.out q (all q hq), e]
  · obtain ⟨l, m⟩ := (afK_mem g hs).1 ho
    have kr1 : ∀ x, Rg M x → KR M (Reach M) s (x :: o) := fun x hx => ⟨hs, by rw [List.length_cons]; exact l, fun k hk => by
      rcases List.mem_cons.1 hk with z | z
      · rw [z]; exact all x hx
      · exact all k (m k z)⟩
    have kr2 : ∀ x, Rg M x → KR M (Reach M) s (o ++ [x]) := fun x hx => ⟨hs, by rw [List.length_append]; exact l, fun k hk => by
      rcases List.mem_append.1 hk with z | z
      · exact all k (m k z)
      · rw [List.mem_singleton.1 z]; exact all x hx⟩
    show h _ = h _ ∧ h _ = h _
    rw [← H.to s _ (kr1 p hp), ← H.to s _ (kr1 q hq), ← H.to s _ (kr2 p hp), ← H.to s _ (kr2 q hq), List.map_cons, List.map_cons, List.map_append, List.map_append]
    have e : h p = h q := e
    rw [show [p].map h = [q].map h by rw [List.map_cons, List.map_cons, e], e]
    exact ⟨rfl, rfl⟩
/-- one place after another -/
theorem cong_two {M : TM} {E : Int → Int → Prop} (g : GoodT M) (C : Cong1 M E) (tr : ∀ x y z, E x y → E y z → E x z) (rf : ∀ x, E x x) {f : Int → Int} {s : Nat} {ks : List Int} (hk : KR M (Rg M) s ks) (hf : ∀ k ∈ ks, Rg M (f k) ∧ E (f k) k) : E (M.to s (ks.map f)) (M.to s ks) := by
  have r2 : ks.length ≤ 2 := by
    have := rank_rg g hk.lt
    rw [hk.len]
    omega
  match ks, hk, hf, r2 with
  | [], _, _, _ => exact rf _
  | [a], hk, hf, _ =>
    obtain ⟨h1, h2⟩ := hf a (by simp)
    exact (C.ctx (f a) a h1 (hk.dom a (by simp)) h2 s hk.lt [] ((afK_mem g hk.lt).2 ⟨hk.len, fun k h => by cases h⟩)).1
  | [a, b], hk, hf, _ =>
    obtain ⟨h1, h2⟩ := hf a (by simp)
    obtain ⟨h3, h4⟩ := hf b (by simp)
    have c1 := (C.ctx (f a) a h1 (hk.dom a (by simp)) h2 s hk.lt [f b] ((afK_mem g hk.lt).2 ⟨hk.len, fun k h => by rw [List.mem_singleton.1 h]; exact h3⟩)).1
    have c2 := (C.ctx (f b) b h3 (hk.dom b (by simp)) h4 s hk.lt [a] ((afK_mem g hk.lt).2 ⟨hk.len, fun k h => by rw [List.mem_singleton.1 h]; exact hk.dom a (by simp)⟩)).2
    exact tr _ _ _ c1 c2
/-! ### trees -/
theorem TT.reach {M : TM} {t : List Int} {p : Int} (h : TT M t p) : Reach M p := by
  induction h with
  | mk s ks us hs hl hu h ih =>
    refine .mk s ks hs hl fun k hk => ?_
    obtain ⟨i, hi⟩ := List.mem_iff_getElem?.1 hk
    have li := (List.getElem?_eq_some_iff.1 hi).1
    exact ih i _ _ (List.getElem?_eq_getElem (by omega)) hi
theorem Hom.tt {M M' : TM} {h : Int → Int} (H : Hom M M' h) {t : List Int} {p : Int} (r : TT M t p) : TT M' t (h p) := by
  induction r with
  | mk s ks us hs hl hu hh ih =>
    have kr : KR M (Reach M) s ks := ⟨hs, hl, fun k hk => by
      obtain ⟨i, hi⟩ := List.mem_iff_getElem?.1 hk
      have li := (List.getElem?_eq_some_iff.1 hi).1
      exact (hh i _ _ (List.getElem?_eq_getElem (by omega)) hi).reach⟩
    rw [← H.to s ks kr]
    refine .mk s _ us (by rw [H.rs]; exact hs) (by rw [List.length_map, H.rank]; exact hl) (by rw [List.length_map]; exact hu) fun i u k h1 h2 => ?_
    rw [List.getElem?_map] at h2
    obtain ⟨z, hz, rfl⟩ := Option.map_eq_some_iff.1 h2
    exact ih i u z h1 hz
/-- trees of the image come from trees -/
theorem Hom.lift {M M' : TM} {h : Int → Int} (H : Hom M M' h) {t : List Int} {q : Int} (r : TT M' t q) : ∃ p, TT M t p ∧ h p = q := by
  induction r with
  | mk s ks us hs hl hu hh ih =>
    have : ∃ js : List Int, js.length = ks.length ∧ js.map h = ks ∧ ∀ (i : Nat) (u : List Int) (k : Int), us[i]? = some u → js[i]? = some k → TT M u k := by
      clear hl hh
      induction ks generalizing us with
      | nil => exact ⟨[], rfl, rfl, fun i u k _ h => by simp at h⟩
      | cons k ks ih2 =>
        match us, hu with
        | u :: us, hu =>
          obtain ⟨js, l, e, f⟩ := ih2 us (by simpa using hu) fun i u k h1 h2 => ih (i + 1) u k (by simpa using h1) (by simpa using h2)
          obtain ⟨p, tp, ep⟩ := ih 0 u k rfl rfl
          refine ⟨p :: js, by rw [List.length_cons, List.length_cons, l], by rw [List.map_cons, e, ep], fun i u' k' h1 h2 => ?_⟩
          cases i with
          | zero =>
            cases h1
            cases h2
            exact tp
          | succ i => exact f i u' k' (by simpa using h1) (by simpa using h2)
    obtain ⟨js, l, rfl, f⟩ := this
    have lt : s < M.rs.length := by rw [← H.rs]; exact hs
    have ln : js.length = (M.rank (s : Int)).toNat := by rw [l, hl, H.rank]
    have T := TT.mk (M := M) s js us lt ln (by rw [hu, List.length_map]) f
    refine ⟨_, T, ?_⟩
    refine (H.to s js ⟨lt, ln, fun k hk => ?_⟩).symm
    obtain ⟨i, hi⟩ := List.mem_iff_getElem?.1 hk
    have li := (List.getElem?_eq_some_iff.1 hi).1
    rw [List.length_map] at hu
    exact (f i _ _ (List.getElem?_eq_getElem (by omega)) hi).reach
def LeastT (M : TM) (t : List Int) (p : Int) : Prop := TT M t p ∧ ∀ u, TT M u p → wordLt u t = false
theorem lex_tri : ∀ u v : List Int, u.length = v.length → HT.lexLt u v = false → HT.lexLt v u = false → u = v
  | [], [], _, _, _ => rfl
  | [], _ :: _, h, _, _ => by simp at h
  | _ :: _, [], h, _, _ => by simp at h
  | x :: u, y :: v, h, h1, h2 => by
    rw [HT.lexLt_cons] at h1 h2
    by_cases e : x = y
    · rw [if_pos e] at h1
      rw [if_pos e.symm] at h2
      rw [e, lex_tri u v (by simpa using h) h1 h2]
    · rw [if_neg e] at h1
      rw [if_neg (Ne.symm e)] at h2
      have := of_decide_eq_false h1
      have := of_decide_eq_false h2
      omega
theorem word_tri {u v : List Int} (h1 : wordLt u v = false) (h2 : wordLt v u = false) : u = v := by
  unfold wordLt at h1 h2
  by_cases e : u.length = v.length
  · rw [if_pos e] at h1
    rw [if_pos e.symm] at h2
    exact lex_tri u v e h1 h2
  · rw [if_neg e] at h1
    rw [if_neg (Ne.symm e)] at h2
    have := of_decide_eq_false h1
    have := of_decide_eq_false h2
    omega
theorem LeastT.uniq {M : TM} {t u : List Int} {p : Int} (a : LeastT M t p) (b : LeastT M u p) : t = u := word_tri (b.2 t a.1) (a.2 u b.1)
/-- pieces that are not greater make a whole that is not greater -/
theorem lex_app_le : ∀ {u v : List Int} {x y : List Int}, u.length = v.length → HT.lexLt (v ++ y) (u ++ x) = (HT.lexLt v u || (decide (v = u) && HT.lexLt y x))
  | [], [], x, y, _ => by simp [HT.lexLt]
  | [], _ :: _, _, _, h => by simp at h
  | _ :: _, [], _, _, h => by simp at h
  | a :: u, b :: v, x, y, h => by
    rw [List.cons_append, List.cons_append, HT.lexLt_cons, HT.lexLt_cons]
    by_cases e : b = a
    · rw [if_pos e, if_pos e, lex_app_le (by simpa using h), e]
      simp
    · rw [if_neg e, if_neg e]
      have : ¬ (b :: v = a :: u) := fun z => e (by injection z)
      rw [decide_eq_false this]
      simp
/-- word by word not greater: the words one behind another are not greater -/
theorem cat_le : ∀ (fs us : List (List Int)), fs.length = us.length → (∀ (i : Nat) (f u : List Int), fs[i]? = some f → us[i]? = some u → wordLt u f = false) → fs.flatten.length ≤ us.flatten.length ∧ (fs.flatten.length = us.flatten.length → HT.lexLt us.flatten fs.flatten = false)
  | [], [], _, _ => ⟨Nat.le_refl _, fun _ => rfl⟩
  | [], _ :: _, h, _ => by simp at h
  | _ :: _, [], h, _ => by simp at h
  | f :: fs, u :: us, h, hw => by
    obtain ⟨l, e⟩ := cat_le fs us (by simpa using h) fun i f' u' h1 h2 => hw (i + 1) f' u' (by simpa using h1) (by simpa using h2)
    have w := hw 0 f u rfl rfl
    have lw := wl_len w
    refine ⟨by rw [List.flatten_cons, List.flatten_cons, List.length_append, List.length_append]; omega, fun hl => ?_⟩
    rw [List.flatten_cons, List.flatten_cons, List.length_append, List.length_append] at hl
    have l1 : f.length = u.length := by omega
    rw [List.flatten_cons, List.flatten_cons, lex_app_le l1, e (by omega)]
    unfold wordLt at w
    rw [if_pos l1.symm] at w
    rw [w]
    simp
/-- the first trees are the least ones -/
theorem full_least {M : TM} {F : List Fe} (h : Full M F []) {t : List Int} {p : Int} (r : TT M t p) : ∃ x ∈ F, x.1 = p ∧ wordLt t x.2.2 = false := by
  induction r with
  | mk s ks us hs hl hu hh ih =>
    have kK : ∀ k ∈ ks, k ∈ keysF F := fun k hk => by
      obtain ⟨i, hi⟩ := List.mem_iff_getElem?.1 hk
      have li := (List.getElem?_eq_some_iff.1 hi).1
      obtain ⟨x, hx, e, _⟩ := ih i _ _ (List.getElem?_eq_getElem (by omega)) hi
      exact List.mem_map.2 ⟨x, hx, e⟩
    obtain ⟨x, hx, ex, q⟩ := h.2 s ks ⟨hs, hl, kK⟩
    rw [List.append_nil] at hx
    refine ⟨x, hx, ex, ?_⟩
    have fl : ks.flatMap (trOf F) = (ks.map (trOf F)).flatten := List.flatMap_def ..
    obtain ⟨l, e⟩ := cat_le (ks.map (trOf F)) us (by rw [List.length_map, hu]) fun i f u h1 h2 => by
      rw [List.getElem?_map] at h1
      obtain ⟨k, hk, rfl⟩ := Option.map_eq_some_iff.1 h1
      obtain ⟨y, hy, ey, w⟩ := ih i u k h2 hk
      have : trOf F k = y.2.2 := by
        have := getF_uniq (List.nodup_append.1 h.1.nd).1 hy
        unfold trOf
        rw [← ey, this]
        rfl
      rw [this]
      exact w
    -- s :: us is not less than s :: first trees, which is not less than x
    have w1 : wordLt ((s : Int) :: us.flatten) ((s : Int) :: ks.flatMap (trOf F)) = false := by
      rw [fl]
      unfold wordLt
      rw [List.length_cons, List.length_cons]
      by_cases c : us.flatten.length = (ks.map (trOf F)).flatten.length
      · rw [if_pos (by omega), HT.lexLt_cons, if_pos rfl]
        exact e c.symm
      · rw [if_neg (by omega)]
        exact decide_eq_false (by omega)
    cases w : wordLt ((s : Int) :: us.flatten) x.2.2 with
    | false => rfl
    | true =>
      -- x less than or equal to the first trees' one; so us less than it
      cases c : wordLt x.2.2 ((s : Int) :: ks.flatMap (trOf F)) with
      | true => rw [wl_tr w c] at w1; cases w1
      | false =>
        rw [word_tri c q] at w
        rw [w] at w1
        cases w1
theorem full_leastT {M : TM} {F : List Fe} (h : Full M F []) {x : Fe} (hx : x ∈ F) : LeastT M x.2.2 x.1 := by
  refine ⟨(h.1.tr x (List.mem_append_left _ hx)).tt, fun u hu => ?_⟩
  obtain ⟨y, hy, e, w⟩ := full_least h hu
  have nd := (List.nodup_append.1 h.1.nd).1
  have a := getF_uniq nd hy
  have b := getF_uniq nd hx
  rw [e, b] at a
  rw [Option.some.inj a]
  exact w
theorem full_all {M : TM} {F : List Fe} (h : Full M F []) {p : Int} (r : Reach M p) : p ∈ keysF F := by
  induction r with
  | mk s ks hs hl _ ih =>
    obtain ⟨x, hx, e, _⟩ := h.2 s ks ⟨hs, hl, ih⟩
    rw [List.append_nil] at hx
    exact List.mem_map.2 ⟨x, hx, e⟩
def Asc (M : TM) : Prop := ∀ p q t u, Rg M p → Rg M q → p < q → LeastT M t p → LeastT M u q → wordLt t u = true
end K63

set_option Elab.async false
set_option linter.all false
set_option maxRecDepth 100000
set_option maxHeartbeats 4000000
namespace K63
open PySem PySem.Spec PyProof.Rows L2 Mz
/-! ### the three steps -/
def numL (ss : List Int) (p : Int) : Int := (ss.idxOf p : Nat)
theorem numL_at {ss : List Int} {p : Int} (h : p ∈ ss) : 0 ≤ numL ss p ∧ numL ss p < (ss.length : Int) ∧ ss.getD (numL ss p).toNat 0 = p := by
  have l := List.idxOf_lt_length_of_mem h
  unfold numL
  refine ⟨by omega, by omega, ?_⟩
  rw [Int.toNat_natCast, List.getD_eq_getElem?_getD, List.getElem?_eq_getElem l, List.getElem_idxOf l]
  rfl
theorem numL_get {ss : List Int} (nd : ss.Nodup) {i : Nat} {p : Int} (h : ss[i]? = some p) : numL ss p = (i : Int) := by
  have m := List.mem_of_getElem? h
  obtain ⟨h0, h1, h2⟩ := numL_at m
  have l := (List.getElem?_eq_some_iff.1 h).1
  have e : ss[(numL ss p).toNat]? = some p := by
    rw [List.getD_eq_getElem?_getD, List.getElem?_eq_getElem (by omega)] at h2
    rw [List.getElem?_eq_getElem (by omega)]
    exact congrArg some h2
  have := (List.getElem?_inj l nd).1 (h.trans e.symm)
  omega
theorem Rg.of {M : TM} {p : Int} (h : Rg M p) : p.toNat < M.outs.length ∧ ((p.toNat : Nat) : Int) = p := by
  have e : M.n = (M.outs.length : Int) := rfl
  obtain ⟨h0, h1⟩ := h
  exact ⟨by omega, by omega⟩
theorem id_hom {M : TM} {ss : List Int} (g : GoodT M) (nd : ss.Nodup) (n1 : 1 ≤ ss.length) (l6 : ss.length ≤ 6) (hm : ∀ p, p ∈ ss ↔ Reach M p) : GoodT (keptM M ss (numL ss)) ∧ Hom M (keptM M ss (numL ss)) (numL ss) ∧ AllR (keptM M ss (numL ss)) := by
  have H : Hom M (keptM M ss (numL ss)) (numL ss) := kept_hom n1 (fun p hp => ⟨(numL_at ((hm p).2 hp)).1, (numL_at ((hm p).2 hp)).2.1⟩) (fun p hp => by rw [(numL_at ((hm p).2 hp)).2.2]) fun s ks hk => by
    congr 2
    rw [List.map_congr_left (g := id) fun k hk' => (numL_at ((hm k).2 (hk.dom k hk'))).2.2, List.map_id]
  refine ⟨kept_good g n1 l6 (fun p hp => ((hm p).1 hp).rg g) fun s ks hk => ?_, H, fun q hq => ?_⟩
  · have := (hm _).2 (.mk s ks hk.lt hk.len fun k h => (hm k).1 (hk.dom k h))
    exact ⟨(numL_at this).1, (numL_at this).2.1⟩
  · have q1 := hq.2
    rw [kept_n] at q1
    have l : q.toNat < ss.length := by have := hq.1; omega
    have e := numL_get nd (List.getElem?_eq_getElem l)
    have := H.reach ((hm _).1 (List.getElem_mem l))
    rw [e, Int.toNat_of_nonneg hq.1] at this
    exact this
def kpL (S : List Int) (n : Nat) : List Int := (rgL n).filter fun x => decide (x = gS S x)
theorem rep_at {R : Nat → Nat → Prop} {n : Nat} {S : List Int} (E : Eqv n R) (r : Rep R n S) {p : Int} (h0 : 0 ≤ p) (h1 : p < (n : Int)) : 0 ≤ gS S p ∧ gS S p ≤ p ∧ R (gS S p).toNat p.toNat ∧ gS S (gS S p) = gS S p := by
  obtain ⟨g, e, l, q, m⟩ := r.2 p.toNat (by omega)
  have eg : gS S p = (g : Int) := by
    unfold gS
    rw [List.getD_eq_getElem?_getD, e]
    rfl
  have eq : R g p.toNat := E.symm _ _ q
  refine ⟨by omega, by omega, by rw [eg, Int.toNat_natCast]; exact eq, ?_⟩
  have := (rep_eq E r (i := g) (j := p.toNat) (by omega) (by omega)).2 eq
  have e1 : gS S (g : Int) = S.getD g 0 := by unfold gS; rw [Int.toNat_natCast]
  have e2 : gS S p = S.getD p.toNat 0 := rfl
  rw [eg, e1, this, ← e2, eg]
theorem kpL_mem {S : List Int} {n : Nat} {x : Int} : x ∈ kpL S n ↔ (0 ≤ x ∧ x < (n : Int)) ∧ x = gS S x := by
  unfold kpL
  rw [List.mem_filter, rgL_mem, decide_eq_true_iff]
theorem rgL_nodup (n : Nat) : (rgL n).Nodup := by
  unfold rgL
  rw [List.nodup_iff_pairwise_ne, List.pairwise_map]
  exact (List.nodup_iff_pairwise_ne.1 List.nodup_range).imp fun h e => h (by omega)
theorem cls_hom {M : TM} (g : GoodT M) (all : AllR M) {t : Nat} {S : List Int} (r : Rep (RT M t) M.outs.length S) (st : ∀ x y, x < M.outs.length → y < M.outs.length → RT M t x y → RT M (t + 1) x y) :
    GoodT (keptM M (kpL S M.outs.length) fun p => numL (kpL S M.outs.length) (gS S p)) ∧ Hom M (keptM M (kpL S M.outs.length) fun p => numL (kpL S M.outs.length) (gS S p)) (fun p => numL (kpL S M.outs.length) (gS S p)) ∧ AllR (keptM M (kpL S M.outs.length) fun p => numL (kpL S M.outs.length) (gS S p)) ∧ Parted (keptM M (kpL S M.outs.length) fun p => numL (kpL S M.outs.length) (gS S p)) := by
  have E := eqv_RT M M.outs.length t
  have nn : M.n = (M.outs.length : Int) := rfl
  have ra : ∀ p, Rg M p → 0 ≤ gS S p ∧ gS S p ≤ p ∧ RT M t (gS S p).toNat p.toNat ∧ gS S (gS S p) = gS S p := fun p hp => rep_at E r hp.1 (by have := hp.2; omega)
  have rgg : ∀ p, Rg M p → Rg M (gS S p) := fun p hp => by
    obtain ⟨a, b, _, _⟩ := ra p hp
    exact ⟨a, by have := hp.2; omega⟩
  have mem : ∀ p, Rg M p → gS S p ∈ kpL S M.outs.length := fun p hp => kpL_mem.2 ⟨⟨(rgg p hp).1, by have := (rgg p hp).2; omega⟩, (ra p hp).2.2.2.symm⟩
  have C := stop_cong g st
  have back : ∀ p, Rg M p → (kpL S M.outs.length).getD (numL (kpL S M.outs.length) (gS S p)).toNat 0 = gS S p := fun p hp => (numL_at (mem p hp)).2.2
  have z0 : Rg M 0 := ⟨Int.le_refl _, by have := g.n1; omega⟩
  have kn : (kpL S M.outs.length).Nodup := List.filter_sublist.nodup (rgL_nodup _)
  have k1 : 1 ≤ (kpL S M.outs.length).length := List.length_pos_of_mem (mem 0 z0)
  have k6 : (kpL S M.outs.length).length ≤ 6 := by
    have a := List.length_filter_le (fun x => decide (x = gS S x)) (rgL M.outs.length)
    have b : (rgL M.outs.length).length = M.outs.length := by unfold rgL; rw [List.length_map, List.length_range]
    have := g.n6
    unfold kpL
    omega
  have kr : ∀ p ∈ kpL S M.outs.length, Rg M p := fun p hp => ⟨(kpL_mem.1 hp).1.1, (kpL_mem.1 hp).1.2⟩
  have H : Hom M (keptM M (kpL S M.outs.length) fun p => numL (kpL S M.outs.length) (gS S p)) (fun p => numL (kpL S M.outs.length) (gS S p)) := by
    refine kept_hom k1 (fun p hp => ?_) (fun p hp => ?_) fun s ks hk => ?_
    · have := numL_at (mem p (hp.rg g))
      exact ⟨this.1, this.2.1⟩
    · rw [back p (hp.rg g)]
      exact C.out _ _ (rgg p (hp.rg g)) (hp.rg g) (ra p (hp.rg g)).2.2.1
    · have kr' : KR M (Rg M) s ks := ⟨hk.lt, hk.len, fun k h => (hk.dom k h).rg g⟩
      have e : ks.map (fun k => (kpL S M.outs.length).getD (numL (kpL S M.outs.length) (gS S k)).toNat 0) = ks.map (gS S) := List.map_congr_left fun k h => back k (kr'.dom k h)
      rw [e]
      have c := cong_two g C (fun x y z h1 h2 => E.trans _ _ _ h1 h2) (fun x => E.refl _) (f := gS S) kr' fun k h => ⟨rgg k (kr'.dom k h), (ra k (kr'.dom k h)).2.2.1⟩
      have r1 : Rg M (M.to s (ks.map (gS S))) := KR.to_ g ⟨hk.lt, by rw [List.length_map]; exact hk.len, fun k h => by
        obtain ⟨z, hz, rfl⟩ := List.mem_map.1 h
        exact rgg z (kr'.dom z hz)⟩
      have r2 : Rg M (M.to s ks) := KR.to_ g kr'
      have e2 : gS S (M.to s (ks.map (gS S))) = gS S (M.to s ks) := (rep_eq E r r1.of.1 r2.of.1).2 c
      show numL _ _ = numL _ _
      rw [e2]
  have gd : GoodT (keptM M (kpL S M.outs.length) fun p => numL (kpL S M.outs.length) (gS S p)) := kept_good g k1 k6 kr fun s ks hk => by
    have := numL_at (mem _ (KR.to_ g ⟨hk.lt, hk.len, fun k h => kr k (hk.dom k h)⟩))
    exact ⟨this.1, this.2.1⟩
  have al : AllR (keptM M (kpL S M.outs.length) fun p => numL (kpL S M.outs.length) (gS S p)) := fun q hq => by
    have q1 := hq.2
    rw [kept_n] at q1
    have l : q.toNat < (kpL S M.outs.length).length := by have := hq.1; omega
    have me := List.getElem_mem l
    have e := numL_get kn (List.getElem?_eq_getElem l)
    have := H.reach (all _ (kr _ me))
    rw [show gS S (kpL S M.outs.length)[q.toNat] = (kpL S M.outs.length)[q.toNat] from (kpL_mem.1 me).2.symm, e, Int.toNat_of_nonneg hq.1] at this
    exact this
  refine ⟨gd, H, al, H.parted g gd all al fun E' CE p q hp hq e => ?_⟩
  have := cong_RT g CE t p q hp hq e
  have e2 : gS S p = gS S q := (rep_eq E r hp.of.1 hq.of.1).2 this
  show numL _ _ = numL _ _
  rw [e2]
/-- a tree has one state -/
theorem tt_st {M : TM} {t : List Int} {p : Int} (r : TT M t p) : ∀ v, t.foldr (fun s st => stepS M st s) v = p :: v := by
  induction r with
  | mk s ks us hs hl hu h ih =>
    have cat : ∀ (ks : List Int) (us : List (List Int)), us.length = ks.length → (∀ (i : Nat) (u : List Int) (k : Int), us[i]? = some u → ks[i]? = some k → ∀ v, u.foldr (fun s st => stepS M st s) v = k :: v) → ∀ v, us.flatten.foldr (fun s st => stepS M st s) v = ks ++ v := by
      intro ks
      induction ks with
      | nil =>
        intro us hu _ v
        rw [List.length_eq_zero_iff.1 hu]
        rfl
      | cons k ks ih2 =>
        intro us hu f v
        match us, hu with
        | u :: us, hu =>
          rw [List.flatten_cons, List.foldr_append, ih2 us (by simpa using hu) (fun i u k h1 h2 => f (i + 1) u k (by simpa using h1) (by simpa using h2)), f 0 u k rfl rfl]
          rfl
    intro v
    rw [List.foldr_cons, cat ks us hu ih]
    unfold stepS
    rw [← hl, List.take_left, List.drop_left]
theorem tt_uniq {M : TM} {t : List Int} {p q : Int} (a : TT M t p) (b : TT M t q) : p = q := by
  have h1 := tt_st a []
  rw [tt_st b []] at h1
  injection h1 with h _
  exact h.symm
def Mini0 (M' : TM) : Prop := GoodT M' ∧ AllR M' ∧ Parted M' ∧ Asc M'
theorem ord_hom {M : TM} (g : GoodT M) (all : AllR M) (pt : Parted M) {F : List Fe} (full : Full M F []) {od : List Int} (pm : od.Perm (rgL M.outs.length)) (so : od.Pairwise fun a b => wordLt (trOf F b) (trOf F a) = false) : Mini0 (keptM M od (numL od)) ∧ Hom M (keptM M od (numL od)) (numL od) := by
  have nn : M.n = (M.outs.length : Int) := rfl
  have nd : od.Nodup := pm.nodup_iff.2 (rgL_nodup _)
  have hm : ∀ p, p ∈ od ↔ Reach M p := fun p => by
    rw [pm.mem_iff, rgL_mem]
    exact ⟨fun h => all p h, fun h => h.rg g⟩
  have ln : od.length = M.outs.length := by
    rw [pm.length_eq]
    unfold rgL
    rw [List.length_map, List.length_range]
  obtain ⟨gd, H, al⟩ := id_hom g nd (by rw [ln]; exact g.n1) (by rw [ln]; exact g.n6) hm
  have pt' : Parted (keptM M od (numL od)) := H.parted g gd all al fun E C p q hp hq e => by rw [pt E C p q hp hq e]
  refine ⟨⟨gd, al, pt', fun p q t u hp hq lt ht hu => ?_⟩, H⟩
  have rg' : ∀ {q : Int}, Rg (keptM M od (numL od)) q → q.toNat < od.length := fun {q} h => by
    have := h.2
    rw [kept_n] at this
    have := h.1
    omega
  -- the tree of a state behind is the tree of the state ahead
  have same : ∀ {q : Int} {t : List Int} (hq : Rg (keptM M od (numL od)) q), LeastT (keptM M od (numL od)) t q → LeastT M t (od[q.toNat]'(rg' hq)) := fun {q t} hq h => by
    have l := rg' hq
    have e := numL_get nd (List.getElem?_eq_getElem l)
    rw [Int.toNat_of_nonneg hq.1] at e
    have inj : ∀ p, Reach M p → numL od p = q → p = od[q.toNat] := fun p hp e2 => by
      have := (numL_at ((hm p).2 hp)).2.2
      rw [e2, List.getD_eq_getElem?_getD, List.getElem?_eq_getElem l] at this
      exact this.symm
    obtain ⟨p, tp, ep⟩ := H.lift h.1
    refine ⟨by rw [← inj p tp.reach ep]; exact tp, fun u hu => ?_⟩
    have := H.tt hu
    rw [e] at this
    exact h.2 u this
  have lp := same hp ht
  have lq := same hq hu
  have fo : ∀ {x : Int} {t : List Int}, LeastT M t x → trOf F x = t := fun {x t} h => by
    obtain ⟨y, hy, ey⟩ := List.mem_map.1 (full_all full h.1.reach)
    have a := full_leastT full hy
    have ey : y.1 = x := ey
    rw [ey] at a
    have b := getF_uniq (List.nodup_append.1 full.1.nd).1 hy
    rw [ey] at b
    unfold trOf
    rw [b]
    exact a.uniq h
  have pw := List.pairwise_iff_getElem.1 so p.toNat q.toNat (rg' hp) (rg' hq) (by have := hp.1; omega)
  rw [fo lp, fo lq] at pw
  cases w : wordLt t u with
  | true => rfl
  | false =>
    have e := word_tri w pw
    subst e
    exact absurd (tt_uniq lp.1 lq.1) fun z => by
      have := (List.getElem_inj nd).1 z
      have := hp.1
      have := hq.1
      omega
end K63

set_option Elab.async false
set_option linter.all false
set_option maxRecDepth 100000
set_option maxHeartbeats 4000000
namespace K63
open PySem PySem.Spec PyProof.Rows L2 Mz
theorem pe_indexK {X : Cx} {K : PySem.W.Frag} {o e : Expr} {to : TE} {t : TA} {apos cpos : PySem.Pos} (hK : X.K = K) (ho : PE X o to) (ha : PA X [e] t)
    (hbase : attributeBase o "index" X.env (eval o X.env) = eval o X.env := by rfl)
    (hfew : ((backTo cpos (starEach [e] X.env)).all (fun x => !x.1) && (backToKw cpos (keywordEach [] X.env)).all (fun x => x.1.isSome)
      && decide ([e].length + ([] : List Keyword).length + (if ([] : List Keyword).isEmpty then 0 else 1) < 30)) = true := by rfl)
    (hline : (apos.endLine == cpos.line) = true := by rfl) (hs : starEach [e] X.env = (false, eval e X.env) :: starEach [] X.env := by rfl) (hplain : (backTo cpos (starEach [] X.env)).any (·.1) = false := by rfl) :
    PE X (.Call (.Attribute o "index" apos) [e] [] cpos) (tBM K "list" (rIndex K) to t) := by
  subst hK
  exact pe_bm PySem.F.plainAttrs_list PySem.F.slot_list_index PySem.F.type_list_index mt_index ho ha hbase hfew hline hs hplain
section
variable {α : Type}
/-- items, each with its word, in the order of their words -/
theorem sortW (fv : α → V) {key : List Int → PyData} (hk : ∀ u v, PySem.W.dataLt (key u) (key v) = wordLt u v) (ts : List α) (ws : List (List Int)) (l : ts.length = ws.length) :
    ∃ zs : List (α × List Int), byKeys (ts.map fv) (ws.map key) = zs.map (fun z => fv z.1) ∧ zs.Perm (ts.zip ws) ∧ (zs.map Prod.snd).Pairwise (fun u v => wordLt v u = false) := by
  have e : (ts.map fv).zip (ws.map key) = (ts.zip ws).map (fun z => (fv z.1, key z.2)) := by
    rw [List.zip_map]
    rfl
  refine ⟨(ts.zip ws).mergeSort (fun p q => !wordLt q.2 p.2), ?_, List.mergeSort_perm _ _, ?_⟩
  · unfold byKeys
    rw [e, ← PySem.W.sort_maps (r := fun p q : α × List Int => !wordLt q.2 p.2) (s := PySem.W.dataLe false Prod.snd) (fun z : α × List Int => (fv z.1, key z.2)) (fun a _ b _ => ?_), List.map_map]
    · rfl
    · rw [PySem.W.dataLe_eq]
      show (!wordLt b.2 a.2) = (!PySem.W.dataLt (key b.2) (key a.2))
      rw [hk]
  · have h := PySem.W.sort_pairwise (PySem.W.sortLe_total (PyProof.Rows.listOrd itemOrd) false (fun z : α × List Int => PySem.W.keyToks (key z.2))) (ts.zip ws)
    have e2 : (ts.zip ws).mergeSort (fun p q => !wordLt q.2 p.2) = (ts.zip ws).mergeSort (PySem.W.sortLe (PyProof.Rows.listOrd itemOrd) false (fun z : α × List Int => PySem.W.keyToks (key z.2))) := PySem.W.sort_congr fun a _ b _ => by
      show (!wordLt b.2 a.2) = (!PySem.W.dataLt (key b.2) (key a.2))
      rw [hk]
    rw [e2, List.pairwise_map]
    refine h.imp fun {a b} q => ?_
    have q : (!PySem.W.dataLt (key b.2) (key a.2)) = true := q
    rw [hk] at q
    simpa using q
end
theorem depth_wordD (ns : List Int) : (wordD ns).depth ≤ 8 := by
  have h := Mz.depth_ints ns
  simp [wordD, PyData.depth, PyData.depthAll]
  omega
theorem rgV_rgL (n : Nat) : rgV 0 (n : Int) = (rgL n).map V.int := by
  unfold rgV rgL
  rw [List.map_map, show ((n : Int) - 0).toNat = n by omega]
  refine List.map_congr_left fun x _ => ?_
  show V.int (0 + (x : Int)) = V.int (x : Int)
  rw [Int.zero_add]
/-- all but two tables are kept -/
structure Kt (P2 P3 : Addr) (H H' : Hp) : Prop where
  keep : ∀ b o, b ≠ P2 → b ≠ P3 → H b = some o → H' b = some o
  t2 : LamX.TabS H' P2 "_trees_up_to.<locals>.<lambda>"
  t3 : LamX.TabS H' P3 "least_tree_machine.<locals>.<lambda>"
abbrev Q2 : Str := "_trees_up_to.<locals>.<lambda>"
abbrev Q3 : Str := "least_tree_machine.<locals>.<lambda>"
theorem Kt.trans {P2 P3 : Addr} {H H1 H2 : Hp} (a : Kt P2 P3 H H1) (b : Kt P2 P3 H1 H2) : Kt P2 P3 H H2 := ⟨fun c o n m e => b.keep c o n m (a.keep c o n m e), b.t2, b.t3⟩
theorem Kt.same {P2 P3 : Addr} {H H1 H2 : Hp} (a : Kt P2 P3 H H1) (s : Same H1 H2) : Kt P2 P3 H H2 := ⟨fun c o n m e => s _ _ (a.keep c o n m e), tabS_same a.t2 s, tabS_same a.t3 s⟩
theorem Kt.ne2 {P2 P3 : Addr} {H H1 : Hp} (a : Kt P2 P3 H H1) {b : Addr} {u : HO} (e : H1 b = some u) (n : ∀ z, u ≠ .tbl z) : b ≠ P2 ∧ b ≠ P3 := by
  obtain ⟨ps, h1, _⟩ := a.t2
  obtain ⟨qs, h2, _⟩ := a.t3
  exact ⟨fun z => by rw [z, h1] at e; exact n _ (Option.some.inj e).symm, fun z => by rw [z, h2] at e; exact n _ (Option.some.inj e).symm⟩
/-- kept behind a state where the tables stand -/
theorem Kt.go {P2 P3 : Addr} {H H1 H2 : Hp} (a : Kt P2 P3 H H1) (k : Kt P2 P3 H1 H2) {b : Addr} {u : HO} (n : ∀ z, u ≠ .tbl z) (e : H1 b = some u) : H2 b = some u := k.keep _ _ (a.ne2 e n).1 (a.ne2 e n).2 e
theorem Kt.tmt {P2 P3 : Addr} {H H1 H2 : Hp} (a : Kt P2 P3 H H1) (k : Kt P2 P3 H1 H2) {m : Addr} {M : TM} {r ru ou : Addr} {qs : List Addr} (h : TMt H1 m M r ru ou qs) : TMt H2 m M r ru ou qs := by
  have g : ∀ {b : Addr} {u : HO}, (∀ z, u ≠ .tbl z) → H1 b = some u → H2 b = some u := fun n e => a.go k n e
  refine ⟨g (fun _ z => by cases z) h.top, ?_, g (fun _ z => by cases z) h.ru, g (fun _ z => by cases z) h.ou, h.len, fun i q w x y => g (fun _ z => by cases z) (h.row i q w x y)⟩
  rcases h.rs with e | ⟨o, e⟩
  · exact .inl (g (fun _ z => by cases z) e)
  · exact .inr ⟨o, g (fun _ z => by cases z) e⟩
theorem Kt.tma {P2 P3 : Addr} {H H1 H2 : Hp} (a : Kt P2 P3 H H1) (k : Kt P2 P3 H1 H2) {m : Addr} {M : TM} (h : TMA H1 m M) : TMA H2 m M := by
  obtain ⟨r, ru, ou, qs, h⟩ := h
  exact ⟨r, ru, ou, qs, a.tmt k h⟩
theorem Kt.refl {P2 P3 : Addr} {H : Hp} (h2 : LamX.TabS H P2 Q2) (h3 : LamX.TabS H P3 Q3) : Kt P2 P3 H H := ⟨fun _ _ _ _ e => e, h2, h3⟩
/-- one more number -/
theorem num_put {ss : List Int} (nd : ss.Nodup) {kvs : List (Key × V)} {i : Nat} {p : Int} (hp : ss[i]? = some p) (h : ∀ q : Int, valV kvs (.inl q) = if q ∈ ss.take i then some (V.int (numL ss q)) else none) : ∀ q : Int, valV (putK kvs (.inl p) (.int (i : Int))) (.inl q) = if q ∈ ss.take (i + 1) then some (V.int (numL ss q)) else none := fun q => by
  rw [valV_put, take_more hp]
  by_cases c : q = p
  · subst c
    rw [if_pos rfl, if_pos (List.mem_append_right _ (List.mem_singleton.2 rfl)), numL_get nd hp]
  · rw [if_neg fun z => c (by injection z), h]
    by_cases d : q ∈ ss.take i
    · rw [if_pos d, if_pos (List.mem_append_left _ d)]
    · rw [if_neg d, if_neg fun z => (List.mem_append.1 z).elim d fun z => c (List.mem_singleton.1 z)]
def Mini (M M' : TM) : Prop := Mini0 M' ∧ ∃ h, Hom M M' h
def spLeastM (P2 P3 : Addr) : Sp := fun vs H Q _ => ∃ (m : Addr) (M : TM), vs = [.ref m] ∧ TMA H m M ∧ GoodT M ∧ LamX.TabS H P2 Q2 ∧ LamX.TabS H P3 Q3 ∧ ∀ (H' : Hp) (m' : Addr) (M' : TM), Mini M M' → Kt P2 P3 H H' → TMA H' m' M' → Q (.ref m') H'
section
variable {P : Program} {w : World} {K : PySem.W.Frag} {mg : Str → Option Value} {base : Heap} {A : Ads} {c2 c3 P2 P3 : Addr}
theorem ok_least (T : Txt K mg A) (n23 : P2 ≠ P3) (TB2 : LamX.TabB base mg c2 P2) (hc2 : A.d_trees_up_to.code = .ref c2) (TB : LamX.TabB base mg c3 P3) (hc : A.d_least_tree_machine.code = .ref c3) : FnOk P w K mg base CX0 6 A.a_least_tree_machine A.d_least_tree_machine ["machine"] (spLeastM P2 P3) := by
  have G_met_states := ok_met (P := P) (w := w) (base := base) T
  have G_kept := ok_kept (P := P) (w := w) (base := base) T
  have G_classes := ok_classes (P := P) (w := w) (base := base) T
  have G_trees_up_to := ok_upto (P := P) (w := w) (base := base) T TB2 hc2
  have G_tree_order := ok_treeorder (P := P) (w := w) (base := base) T
  refine okC T.F_least_tree_machine sc_least_tree_machine (fun vs H Q E h => ?_) (fun Ar outer s H vs Q E hr h => ?_)
  · obtain ⟨_, _, rfl, _⟩ := h
    rfl
  · have hr_met_states : Room 2 _ := hr.mono (by decide)
    have hr_kept : Room 2 _ := hr.mono (by decide)
    have hr_classes : Room 3 _ := hr.mono (by decide)
    have hr_trees_up_to : Room 5 _ := hr
    refine ⟨_, (pss_cons (ps_set (i := 1) sc_least_tree_machine.nd rfl (Or.inl rfl) (pe_call G_met_states hr_met_states (by rfl) T.g_met_states T.F_met_states.kp T.b_met_states .nil pass0 (pa_cons (pv 0) pa_nil)))
      (pss_cons (ps_setDcK (i := 2) (own := [("number", 9), ("state", 10)]) (g := (gTup K 2 (gCons (gName 9) (gCons (gName 10) gNil)))) (tt := tYes) rfl rfl (sw_trueD rfl rfl rfl (by decide +kernel)) (hu_of hr) rfl sc_least_tree_machine.nd (pi_enum (by rfl) T.n_enumerate (pa_cons (pv 1) pa_nil)) (blkOk_by (N := ["machine", "met", "numbers", "whole", "same", "kept", "small", "order", "firsts", "number", "state", "first"]) (sc := defScope s_least_tree_machine) (by decide +kernel)) (fun _ _ _ _ _ => (pg_tup rfl (pgs_cons (pg_name (i := 9) sc_least_tree_machine.nd rfl (Or.inl rfl)) (pgs_cons (pg_name (i := 10) sc_least_tree_machine.nd rfl (Or.inl rfl)) pgs_nil)))) (fun _ _ _ _ _ => pts_nil) (fun _ _ _ _ _ => (pv 10)) (fun _ _ _ _ _ => (pv 9)))
      (pss_cons (ps_set (i := 3) sc_least_tree_machine.nd rfl (Or.inl rfl) (pe_call G_kept hr_kept (by rfl) T.g_kept T.F_kept.kp T.b_kept .nil pass0 (pa_cons (pv 0) (pa_cons (pv 1) (pa_cons (pv 2) pa_nil)))))
      (pss_cons (ps_set (i := 4) sc_least_tree_machine.nd rfl (Or.inl rfl) (pe_call G_classes hr_classes (by rfl) T.g_classes T.F_classes.kp T.b_classes .nil pass0 (pa_cons (pv 3) pa_nil)))
      (pss_cons (ps_set (i := 5) sc_least_tree_machine.nd rfl (Or.inr rfl) (pe_lc (own := [("state", 10), ("first", 11)]) (g := (gTup K 2 (gCons (gName 10) (gCons (gName 11) gNil)))) rfl sc_least_tree_machine.nd (pi_enum (by rfl) T.n_enumerate (pa_cons (pv 4) pa_nil)) (blkOk_by (N := ["machine", "met", "numbers", "whole", "same", "kept", "small", "order", "firsts", "number", "state", "first"]) (sc := defScope s_least_tree_machine) (by decide +kernel)) (fun _ _ _ _ _ => (pg_tup rfl (pgs_cons (pg_name (i := 10) sc_least_tree_machine.nd rfl (Or.inl rfl)) (pgs_cons (pg_name (i := 11) sc_least_tree_machine.nd rfl (Or.inl rfl)) pgs_nil)))) (fun _ _ _ _ _ => (pts_one (pt_cmpR op_eq (pv 10) (pv 11) (nomark _)))) (fun _ _ _ _ _ => (pv 10))))
      (pss_cons (ps_setDcK (i := 2) (own := [("state", 10), ("first", 11)]) (g := (gTup K 2 (gCons (gName 10) (gCons (gName 11) gNil)))) (tt := tYes) rfl rfl (sw_trueD rfl rfl rfl (by decide +kernel)) (hu_of hr) rfl sc_least_tree_machine.nd (pi_enum (by rfl) T.n_enumerate (pa_cons (pv 4) pa_nil)) (blkOk_by (N := ["machine", "met", "numbers", "whole", "same", "kept", "small", "order", "firsts", "number", "state", "first"]) (sc := defScope s_least_tree_machine) (by decide +kernel)) (fun _ _ _ _ _ => (pg_tup rfl (pgs_cons (pg_name (i := 10) sc_least_tree_machine.nd rfl (Or.inl rfl)) (pgs_cons (pg_name (i := 11) sc_least_tree_machine.nd rfl (Or.inl rfl)) pgs_nil)))) (fun _ _ _ _ _ => pts_nil) (fun _ _ _ _ _ => (pv 10)) (fun _ _ _ _ _ => (pe_indexK (K := K) rfl (pv 5) (pa_cons (pv 11) pa_nil))))
      (pss_cons (ps_set (i := 6) sc_least_tree_machine.nd rfl (Or.inl rfl) (pe_call G_kept hr_kept (by rfl) T.g_kept T.F_kept.kp T.b_kept .nil pass0 (pa_cons (pv 3) (pa_cons (pv 5) (pa_cons (pv 2) pa_nil)))))
      (pss_cons (ps_set (i := 8) sc_least_tree_machine.nd rfl (Or.inr rfl) (pe_call G_trees_up_to hr_trees_up_to (by rfl) T.g_trees_up_to T.F_trees_up_to.kp T.b_trees_up_to .nil pass0 (pa_cons (pv 6) (pa_cons (pe_op op_oneShl pe_int (pe_callB call_len_seq (by rfl) T.n_len PySem.boot_len (pa_cons (pv 5) pa_nil))) pa_nil))))
      (pss_cons (ps_set (i := 7) sc_least_tree_machine.nd rfl (Or.inl rfl) (pe_sortLam (P := P3) (c := c3) (x := "state") (k := 1) rfl (hr.mono (by decide)) (by rfl) T.n_sorted (by decide +kernel) TB hc rfl (lamF_by (show lamFB (defScope s_least_tree_machine) _ _ = true by decide +kernel)) (prg_1 (by rfl) T.n_range (pe_callB call_len_seq (by rfl) T.n_len PySem.boot_len (pa_cons (pv 8) pa_nil))) (by rfl) (fun σ => σ.set 10 none) (fun σ => List.length_set ..) (wfOk (N := (["machine", "met", "numbers", "whole", "same", "kept", "small", "order", "firsts", "number", "state", "first"] : List Str)) (x := "state") (k := 10) (by decide)) (fun _ _ _ _ _ _ => rfl)
          (fun s' H' f c' hr2 => pe_call G_tree_order (hr2.mono (by decide)) (by rfl) T.g_tree_order T.F_tree_order.kp T.b_tree_order .nil pass0 (pa_cons (pe_ix (r := rIx K) ix_seq (pv 8) (pv 12) (fun _ _ => rfl)) pa_nil))))
      (pss_cons (ps_setDcK (i := 2) (own := [("number", 9), ("state", 10)]) (g := (gTup K 2 (gCons (gName 9) (gCons (gName 10) gNil)))) (tt := tYes) rfl rfl (sw_trueD rfl rfl rfl (by decide +kernel)) (hu_of hr) rfl sc_least_tree_machine.nd (pi_enum (by rfl) T.n_enumerate (pa_cons (pv 7) pa_nil)) (blkOk_by (N := ["machine", "met", "numbers", "whole", "same", "kept", "small", "order", "firsts", "number", "state", "first"]) (sc := defScope s_least_tree_machine) (by decide +kernel)) (fun _ _ _ _ _ => (pg_tup rfl (pgs_cons (pg_name (i := 9) sc_least_tree_machine.nd rfl (Or.inl rfl)) (pgs_cons (pg_name (i := 10) sc_least_tree_machine.nd rfl (Or.inl rfl)) pgs_nil)))) (fun _ _ _ _ _ => pts_nil) (fun _ _ _ _ _ => (pv 10)) (fun _ _ _ _ _ => (pv 9)))
      (pss_one (ps_ret (pe_call G_kept hr_kept (by rfl) T.g_kept T.F_kept.kp T.b_kept .nil pass0 (pa_cons (pv 6) (pa_cons (pv 7) (pa_cons (pv 2) pa_nil)))))))))))))))), ?_⟩
    obtain ⟨m, M, rfl, hMA, g, hT2, hT3, fin⟩ := h
    refine ⟨_, rfl, m, M, rfl, hMA, g, fun H1 q1 ms s1 f1 e1 so1 mem1 => ?_⟩
    have nd1 := lt_nodup so1
    have n6 := g.n6
    have lm : ms.length ≤ 6 := Nat.le_trans (in_range_len nd1 fun k hk => ((mem1 k).1 hk).rg g) n6
    have lm1 : 1 ≤ ms.length := by
      obtain ⟨s0, hs0, r0⟩ := leaf_at g
      exact List.length_pos_of_mem ((mem1 _).2 (.mk s0 [] hs0 (by rw [r0]; rfl) fun k hk => by cases hk))
    obtain ⟨gW, hW, aW⟩ := id_hom g nd1 lm1 lm mem1
    refine ⟨_, rfl, q1, _, rfl, SqL.of e1, fun d1 hd1 => ?_⟩
    have sd1 : ∀ u : HO, Same H1 (upd H1 d1 u) := fun u => same_upd (Same.refl _) hd1
    refine dc_it walk_enum (fun i H' => ∃ kvs : List (Key × V), H' d1 = some (.dK kvs) ∧ Same H1 H' ∧ kvs.length ≤ i ∧ ∀ p : Int, valV kvs (.inl p) = if p ∈ ms.take i then some (V.int (numL ms p)) else none) ⟨[], upd_same, sd1 _, Nat.le_refl _, fun p => rfl⟩ (fun i H' _ ⟨_, _, s, _⟩ => SqL.of (s _ _ e1)) ?_ ?_
    · rintro i y H2 H2' hi ⟨kvs, ek, s2, lk, vk⟩ ⟨T', x, z, rfl, hT', rfl, h1, h2⟩
      obtain ⟨p, hp, rfl⟩ := ofV h2
      cases h1
      rw [List.length_map] at hi
      have s3 := same_upd (o := .tup [.int (i : Int), .int p]) (Same.refl H2) hT'
      have eT : (upd H2 T' (.tup [.int (i : Int), .int p])) T' = some (.tup [.int (i : Int), .int p]) := upd_same
      have ek3 := s3 _ _ ek
      have s23 := s2.trans s3
      generalize upd H2 T' (.tup [.int (i : Int), .int p]) = H3 at *
      refine ⟨T', _, rfl, SqT.of eT, rfl, _, _, rfl, _, _, rfl, rfl, ?_⟩
      refine ⟨rfl, ?_⟩
      refine ⟨_, rfl, _, rfl, kvs, .inl p, rfl, ek3, Nat.lt_of_le_of_lt (by omega : _ ≤ 6) (by decide), _, upd_same, same_set s23 hd1, ?_, num_put nd1 hp vk⟩
      have := length_putK kvs (.inl p) (V.int (i : Int))
      omega
    rintro H2 ⟨kvs1, ek1, s12, lk1, vk1⟩
    rw [List.length_map, List.take_length] at vk1
    -- the whole machine
    refine ⟨_, rfl, _, rfl, _, rfl, m, q1, d1, M, ms, kvs1, numL ms, rfl, (hMA.same s1).same s12, g, SqL.of (s12 _ _ e1), lm, fun p hp => ((mem1 p).1 hp).rg g, ek1, fun s' ks hk => ?_, fun H3 wm s23 hWA => ?_⟩
    · rw [vk1, if_pos ((mem1 _).2 (.mk s' ks hk.lt hk.len fun k h => (mem1 k).1 (hk.dom k h)))]
    refine ⟨_, rfl, wm, _, rfl, hWA, gW, fun H4 q4 S t s34 f4 e4 rS stb => ?_⟩
    obtain ⟨gX, hX, aX, pX⟩ := cls_hom gW aW rS stb
    generalize hWd : keptM M ms (numL ms) = W at *
    have nW : W.n = (W.outs.length : Int) := rfl
    have nW6 := gW.n6
    have nW1 := gW.n1
    have lS : S.length = W.outs.length := rS.1
    have EW := eqv_RT W W.outs.length t
    have ra : ∀ p : Int, 0 ≤ p → p < (W.outs.length : Int) → 0 ≤ gS S p ∧ gS S p ≤ p ∧ RT W t (gS S p).toNat p.toNat ∧ gS S (gS S p) = gS S p := fun p h0 h1 => rep_at EW rS h0 h1
    have sAt : ∀ {i : Nat} {x : Int}, S[i]? = some x → x = gS S (i : Int) := fun {i x} h => by
      unfold gS
      rw [Int.toNat_natCast, List.getD_eq_getElem?_getD, h]
      rfl
    have kpn : (kpL S W.outs.length).Nodup := List.filter_sublist.nodup (rgL_nodup _)
    -- the least ones of the classes
    refine ⟨_, rfl, q4, _, rfl, SqL.of e4, fun D hD => ?_⟩
    refine lc_it walk_enum (fun i H' => H' D = some (.lst (((rgL i).filter fun x => decide (x = gS S x)).map V.int)) ∧ Same H4 H') ⟨upd_same, same_upd (Same.refl _) hD⟩ (fun i H' _ ⟨_, s⟩ => SqL.of (s _ _ e4)) ?_ ?_
    · rintro i y H5 H5' hi ⟨eD, s5⟩ ⟨T', x, z, rfl, hT', rfl, h1, h2⟩
      obtain ⟨p, hp, rfl⟩ := ofV h2
      cases h1
      rw [List.length_map] at hi
      have s6 := same_upd (o := .tup [.int (i : Int), .int p]) (Same.refl H5) hT'
      have eT : (upd H5 T' (.tup [.int (i : Int), .int p])) T' = some (.tup [.int (i : Int), .int p]) := upd_same
      have eD6 := s6 _ _ eD
      have s56 := s5.trans s6
      generalize upd H5 T' (.tup [.int (i : Int), .int p]) = H6 at *
      have ep := sAt hp
      have rgs : rgL (i + 1) = rgL i ++ [(i : Int)] := by
        unfold rgL
        rw [List.range_succ, List.map_append]
        rfl
      refine ⟨T', _, rfl, SqT.of eT, rfl, _, _, rfl, _, _, rfl, rfl, ?_⟩
      refine ⟨rfl, ?_⟩
      refine ⟨_, rfl, _, rfl, rfl, _, rfl, ?_⟩
      by_cases c : (i : Int) = p
      · refine ifDT (decide_eq_true (by rw [c])) ?_
        have lf := List.length_filter_le (fun x => decide (x = gS S x)) (rgL i)
        have lr : (rgL i).length = i := by unfold rgL; rw [List.length_map, List.length_range]
        refine ⟨_, rfl, _, eD6, Nat.lt_of_le_of_lt (by rw [List.length_map]; omega : _ ≤ 6) (by decide), ?_, same_set s56 hD⟩
        rw [upd_same, rgs, List.filter_append, List.map_append, List.filter_cons, if_pos (decide_eq_true (c.trans ep)), List.filter_nil]
        rfl
      · refine ifDF (decide_eq_false fun z => c (by injection z)) ?_
        refine ⟨?_, s56⟩
        rw [rgs, List.filter_append, List.filter_cons, if_neg (fun z => c ((of_decide_eq_true z).trans ep.symm)), List.filter_nil, List.append_nil]
        exact eD6
    rintro H5 ⟨eD, s5⟩
    rw [List.length_map, lS] at eD
    have eD : H5 D = some (.lst ((kpL S W.outs.length).map V.int)) := eD
    have kin : ∀ p : Int, 0 ≤ p → p < (W.outs.length : Int) → gS S p ∈ kpL S W.outs.length := fun p h0 h1 => by
      obtain ⟨a, b, _, d⟩ := ra p h0 h1
      exact kpL_mem.2 ⟨⟨a, by omega⟩, d.symm⟩
    have kp6 : (kpL S W.outs.length).length ≤ 6 := by
      have a := List.length_filter_le (fun x => decide (x = gS S x)) (rgL W.outs.length)
      have b : (rgL W.outs.length).length = W.outs.length := by unfold rgL; rw [List.length_map, List.length_range]
      unfold kpL
      omega
    have kp1 : 1 ≤ (kpL S W.outs.length).length := List.length_pos_of_mem (kin 0 (Int.le_refl _) (by omega))
    have kpR : ∀ p ∈ kpL S W.outs.length, Rg W p := fun p hp => ⟨(kpL_mem.1 hp).1.1, (kpL_mem.1 hp).1.2⟩
    generalize hkp : kpL S W.outs.length = kp at *
    have e45 := s5 _ _ e4
    -- their places
    refine ⟨_, rfl, q4, _, rfl, SqL.of e45, fun d2 hd2 => ?_⟩
    refine dc_it walk_enum (fun i H' => ∃ kvs : List (Key × V), H' d2 = some (.dK kvs) ∧ Same H5 H' ∧ kvs.length ≤ i ∧ ∀ x : Int, valV kvs (.inl x) = if 0 ≤ x ∧ x < (i : Int) then some (V.int (numL kp (gS S x))) else none) ⟨[], upd_same, same_upd (Same.refl _) hd2, Nat.le_refl _, fun x => (if_neg (by omega)).symm⟩ (fun i H' _ ⟨_, _, s, _⟩ => SqL.of (s _ _ e45)) ?_ ?_
    · rintro i y H6 H6' hi ⟨kvs, ek, s6, lk, vk⟩ ⟨T', x, z, rfl, hT', rfl, h1, h2⟩
      obtain ⟨p, hp, rfl⟩ := ofV h2
      cases h1
      rw [List.length_map] at hi
      have s7 := same_upd (o := .tup [.int (i : Int), .int p]) (Same.refl H6) hT'
      have eT : (upd H6 T' (.tup [.int (i : Int), .int p])) T' = some (.tup [.int (i : Int), .int p]) := upd_same
      have ek7 := s7 _ _ ek
      have s67 := s6.trans s7
      generalize upd H6 T' (.tup [.int (i : Int), .int p]) = H7 at *
      have ep := sAt hp
      have pin : p ∈ kp := by
        rw [ep]
        exact kin _ (by omega) (by omega)
      obtain ⟨n0', n1', n2'⟩ := numL_at pin
      have nidx : kp[(numL kp p).toNat]? = some p := by
        rw [List.getD_eq_getElem?_getD, List.getElem?_eq_getElem (by omega)] at n2'
        rw [List.getElem?_eq_getElem (by omega)]
        exact congrArg some n2'
      refine ⟨T', _, rfl, SqT.of eT, rfl, _, _, rfl, _, _, rfl, rfl, ?_⟩
      refine ⟨rfl, ?_⟩
      refine ⟨_, rfl, _, rfl, .inl ⟨rfl, _, SqL.of (s67 _ _ eD)⟩, _, rfl, D, kp.map V.int, .int p, (numL kp p).toNat, .int p, rfl, rfl, SqL.of (s67 _ _ eD), rfl, flatI kp, by rw [List.getElem?_map, nidx]; rfl, by simp [eqV], fun m' z' hm hz => ?_, ?_⟩
      · obtain ⟨w', hw', rfl⟩ := ofV hz
        have : w' ≠ p := fun z => by
          rw [z] at hw'
          have := numL_get kpn hw'
          omega
        simpa [eqV] using this
      rw [Int.toNat_of_nonneg n0']
      refine ⟨kvs, .inl (i : Int), rfl, ek7, Nat.lt_of_le_of_lt (by omega : _ ≤ 6) (by decide), _, upd_same, same_set s67 hd2, ?_, fun x => ?_⟩
      · have := length_putK kvs (.inl (i : Int)) (V.int (numL kp p))
        omega
      · rw [valV_put]
        by_cases c : x = (i : Int)
        · rw [if_pos (by rw [c]), if_pos (by omega), c, ← ep]
        · rw [if_neg fun z => c (by injection z), vk]
          by_cases c2 : 0 ≤ x ∧ x < (i : Int)
          · rw [if_pos c2, if_pos (by omega)]
          · rw [if_neg c2, if_neg (by omega)]
    rintro H6 ⟨kvs2, ek2, s56, lk2, vk2⟩
    rw [List.length_map, lS] at vk2
    -- the small machine
    have hWA6 := ((hWA.same s34).same s5).same s56
    refine ⟨_, rfl, _, rfl, _, rfl, wm, D, d2, W, kp, kvs2, fun p => numL kp (gS S p), rfl, hWA6, gW, SqL.of (s56 _ _ eD), kp6, kpR, ek2, fun s' ks hk => ?_, fun H7 xm s67 hXA => ?_⟩
    · obtain ⟨t0, t1⟩ := KR.to_ gW ⟨hk.lt, hk.len, fun k h => kpR k (hk.dom k h)⟩
      rw [vk2, if_pos ⟨t0, by omega⟩]
    generalize hXd : (keptM W kp fun p => numL kp (gS S p)) = X at *
    have lX : X.outs.length = kp.length := by rw [← hXd]; exact List.length_map ..
    have s07 : Same H H7 := s1.trans (s12.trans (s23.trans (s34.trans (s5.trans (s56.trans s67)))))
    have T2a := tabS_same hT2 s07
    have T3a := tabS_same hT3 s07
    -- first trees
    refine ⟨_, rfl, _, rfl, D, _, rfl, .inl (SqL.of ((s56.trans s67) _ _ eD)), kp.length, rfl, by rw [List.length_map], Nat.le_trans kp6 (by decide), xm, X, _, rfl, hXA, gX, ?_, T2a, fun H8 l F full k8 T2b tl nl el => ?_⟩
    · rw [lX, Int.natCast_pow]
      exact Int.le_refl _
    have tblNe : ∀ {H' : Hp} {q : Str} {b : Addr} {u : HO} {P0 : Addr}, LamX.TabS H' P0 q → H' b = some u → (∀ z, u ≠ .tbl z) → b ≠ P0 := fun {H' q b u P0} ⟨ps, h1, _⟩ e n z => by
      rw [z, h1] at e
      exact n _ (Option.some.inj e).symm
    have T3b : LamX.TabS H8 P3 Q3 := by
      obtain ⟨ps, h1, h2, h3⟩ := T3a
      refine ⟨ps, k8.keep _ _ n23.symm h1, h2, fun pos cv hc => ?_⟩
      obtain ⟨c0, e1, e2⟩ := h3 pos cv hc
      exact ⟨c0, e1, k8.keep _ _ (tblNe T2a e2 LamX.codeO_ne) e2⟩
    have kt8 : Kt P2 P3 H H8 := ⟨fun b o n _ e => k8.keep _ _ n (s07 _ _ e), T2b, T3b⟩
    have hX8 := k8.tma (tabS_g T2a) hXA
    have nX : X.n = (X.outs.length : Int) := rfl
    have lX6 := gX.n6
    have ndF := (List.nodup_append.1 full.1.nd).1
    have vF : ∀ p : Int, Rg X p → ∃ x ∈ F, x.1 = p ∧ trOf F p = x.2.2 ∧ atI (valsF F X.outs.length) p = some (V.ref x.2.1) := fun p hp => by
      obtain ⟨x, hx, e, tr⟩ := full.1.trf (full_all full (aX p hp))
      refine ⟨x, hx, e, tr, ?_⟩
      have := atI_get? (f := fun v : V => v) (ns := valsF F X.outs.length) (i := p) (z := V.ref x.2.1) hp.1 (by
        unfold valsF
        rw [List.getElem?_map, List.getElem?_range hp.of.1]
        show some (((getF F ((p.toNat : Nat) : Int)).map fun x => V.ref x.2.1).getD V.non) = _
        rw [hp.of.2, ← e, getF_uniq ndF hx]
        rfl)
      simpa using this
    have lv : (valsF F X.outs.length).length = X.outs.length := by
      unfold valsF
      rw [List.length_map, List.length_range]
    -- sorted by first trees
    refine ⟨_, rfl, l, _, rfl, .inl (SqL.of el), _, rfl, T3b, fun f c' H9 gr nn T3c f0 f1 c1 => ?_⟩
    rw [lv]
    have kt9 : Kt P2 P3 H8 H9 := by
      refine ⟨fun b o _ n e => gr _ _ e n, ?_, T3c⟩
      obtain ⟨ps, h1, h2, h3⟩ := T2b
      refine ⟨ps, gr _ _ h1 n23, h2, fun pos cv hc => ?_⟩
      obtain ⟨c0, e1, e2⟩ := h3 pos cv hc
      exact ⟨c0, e1, gr _ _ e2 (tblNe T3b e2 LamX.codeO_ne)⟩
    have el9 := gr _ _ el (tblNe T3b el (fun _ z => by cases z))
    have tl9 : ∀ x ∈ F, H9 x.2.1 = some (.lst (x.2.2.map V.int)) := fun x hx => gr _ _ (tl x hx) (tblNe T3b (tl x hx) (fun _ z => by cases z))
    have ekz : rgV 0 ((X.outs.length : Nat) : Int) = (rgL X.outs.length).map V.int := rgV_rgL _
    have lrg : (rgL X.outs.length).length = X.outs.length := by unfold rgL; rw [List.length_map, List.length_range]
    refine ⟨f, c', rfl, f1, c1, let ⟨ps, h, _⟩ := T3c; ⟨ps, h⟩, ⟨by omega, by omega, by omega, by omega, by omega⟩, fun i ks H' => Same H9 H' ∧ DpAll K H' ks ((((rgL X.outs.length).map (trOf F)).map wordD).take i), ⟨Same.refl _, .nil⟩, fun i ks H' w' b o e _ => w'.1 _ _ e, fun i x ks H' hx w' => ?_, fun ks H' w' => ?_⟩
    · rw [ekz] at hx
      obtain ⟨p, hp, rfl⟩ := ofV hx
      have pr : Rg X p := rgL_mem.1 (List.mem_of_getElem? hp)
      obtain ⟨y, hy, ey, tr, va⟩ := vF p pr
      have y9 := w'.1 _ _ (tl9 y hy)
      have yl : y.2.2.length ≤ 1000000 := by
        have := full.1.lf y hy
        have := full.1.len
        have := Nat.pow_le_pow_right (show 0 < 2 by decide) (show F.length ≤ 6 by omega)
        omega
      refine ⟨_, rfl, _, rfl, .inl ⟨l, _, _, _, rfl, rfl, SqL.of (w'.1 _ _ el9), va, ?_⟩⟩
      refine ⟨y.2.1, y.2.2, rfl, y9, yl, fun q hq => ?_⟩
      have sq := same_upd (o := .tup [.int y.2.2.length, .ref y.2.1]) (Same.refl H') hq
      refine ⟨w'.1.trans sq, ?_⟩
      rw [show (((rgL X.outs.length).map (trOf F)).map wordD).take (i + 1) = (((rgL X.outs.length).map (trOf F)).map wordD).take i ++ [wordD y.2.2] from take_more (by rw [List.getElem?_map, List.getElem?_map, hp, ← tr]; rfl)]
      exact dpAll_snoc (dp_tree upd_same (sq _ _ y9)) (dpAll_same sq w'.2)
    have lks : (rgV 0 ((X.outs.length : Nat) : Int)).length = X.outs.length := by rw [ekz, List.length_map, lrg]
    rw [lks] at w'
    have wfull : (((rgL X.outs.length).map (trOf F)).map wordD).take X.outs.length = ((rgL X.outs.length).map (trOf F)).map wordD := List.take_of_length_le (by rw [List.length_map, List.length_map, lrg]; exact Nat.le_refl _)
    rw [wfull] at w'
    refine ⟨_, w'.2, PySem.W.AllAlike.of alike_word, PySem.W.Sortable.tuples (fun w => ⟨_, _, rfl⟩), fun d hd => ?_, fun q7 hq7 => ?_⟩
    · obtain ⟨w0, _, rfl⟩ := List.mem_map.mp hd
      exact depth_wordD w0
    rw [ekz]
    obtain ⟨zs, ez, pz, az⟩ := sortW V.int dataLt_word (rgL X.outs.length) ((rgL X.outs.length).map (trOf F)) (by rw [List.length_map])
    rw [ez]
    have zz : ∀ z ∈ zs, z.2 = trOf F z.1 := fun z hz => by
      have := pz.mem_iff.1 hz
      obtain ⟨i, hi⟩ := List.mem_iff_getElem?.mp this
      rw [List.getElem?_zip_eq_some, List.getElem?_map] at hi
      obtain ⟨h1, h2⟩ := hi
      rw [h1] at h2
      exact (Option.some.inj h2).symm
    have zfst : ∀ (ts : List Int) (g : Int → List Int), (ts.zip (ts.map g)).map Prod.fst = ts := fun ts g => by
      induction ts with
      | nil => rfl
      | cons a ts ih => rw [List.map_cons, List.zip_cons_cons, List.map_cons, ih]
    have pod : (zs.map Prod.fst).Perm (rgL X.outs.length) := by
      have := pz.map Prod.fst
      rwa [zfst] at this
    have sod : (zs.map Prod.fst).Pairwise fun a b => wordLt (trOf F b) (trOf F a) = false := by
      rw [List.pairwise_map] at az ⊢
      refine az.imp_of_mem fun {a b} ha hb q => ?_
      rw [← zz a ha, ← zz b hb]
      exact q
    have e7 : (upd H' q7 (.lst (zs.map fun z => V.int z.1))) q7 = some (.lst ((zs.map Prod.fst).map V.int)) := by
      rw [upd_same, List.map_map]
      rfl
    have s97 := same_upd (o := .lst (zs.map fun z => V.int z.1)) w'.1 hq7
    generalize upd H' q7 (.lst (zs.map fun z => V.int z.1)) = H10 at *
    generalize zs.map Prod.fst = od at *
    clear zz az pz ez zs zfst
    obtain ⟨mini, hO⟩ := ord_hom gX aX pX full pod sod
    have ndo : od.Nodup := pod.nodup_iff.2 (rgL_nodup _)
    have lod : od.length = X.outs.length := by rw [pod.length_eq, lrg]
    have mod : ∀ p, p ∈ od ↔ Rg X p := fun p => by rw [pod.mem_iff, rgL_mem]; exact Iff.rfl
    have kt10 : Kt P2 P3 H H10 := (kt8.trans kt9).same s97
    have hX10 : TMA H10 xm X := (kt8.tma kt9 hX8).same s97
    -- the last numbers
    refine ⟨_, rfl, q7, _, rfl, SqL.of e7, fun d3 hd3 => ?_⟩
    refine dc_it walk_enum (fun i H' => ∃ kvs : List (Key × V), H' d3 = some (.dK kvs) ∧ Same H10 H' ∧ kvs.length ≤ i ∧ ∀ p : Int, valV kvs (.inl p) = if p ∈ od.take i then some (V.int (numL od p)) else none) ⟨[], upd_same, same_upd (Same.refl _) hd3, Nat.le_refl _, fun p => rfl⟩ (fun i H' _ ⟨_, _, s, _⟩ => SqL.of (s _ _ e7)) ?_ ?_
    · rintro i y H2 H2' hi ⟨kvs, ek, s2, lk, vk⟩ ⟨T', x, z, rfl, hT', rfl, h1, h2⟩
      obtain ⟨p, hp, rfl⟩ := ofV h2
      cases h1
      rw [List.length_map] at hi
      have s3 := same_upd (o := .tup [.int (i : Int), .int p]) (Same.refl H2) hT'
      have eT : (upd H2 T' (.tup [.int (i : Int), .int p])) T' = some (.tup [.int (i : Int), .int p]) := upd_same
      have ek3 := s3 _ _ ek
      have s23 := s2.trans s3
      generalize upd H2 T' (.tup [.int (i : Int), .int p]) = H3 at *
      refine ⟨T', _, rfl, SqT.of eT, rfl, _, _, rfl, _, _, rfl, rfl, ?_⟩
      refine ⟨rfl, ?_⟩
      refine ⟨_, rfl, _, rfl, kvs, .inl p, rfl, ek3, Nat.lt_of_le_of_lt (by omega : _ ≤ 6) (by decide), _, upd_same, same_set s23 hd3, ?_, num_put ndo hp vk⟩
      have := length_putK kvs (.inl p) (V.int (i : Int))
      omega
    rintro H11 ⟨kvs3, ek3, s11, lk3, vk3⟩
    rw [List.length_map, List.take_length] at vk3
    refine ⟨_, rfl, _, rfl, _, rfl, xm, q7, d3, X, od, kvs3, numL od, rfl, hX10.same s11, gX, SqL.of (s11 _ _ e7), by omega, fun p hp => (mod p).1 hp, ek3, fun s' ks hk => ?_, fun H12 m' s12' hm' => ?_⟩
    · rw [vk3, if_pos ((mod _).2 (KR.to_ gX ⟨hk.lt, hk.len, fun k h => (mod k).1 (hk.dom k h)⟩))]
    · exact fin H12 m' _ ⟨mini, _, (hW.comp hX).comp hO⟩ (kt10.same (s11.trans s12')) hm'
end
end K63

set_option Elab.async false
set_option linter.all false
set_option maxRecDepth 100000
set_option maxHeartbeats 4000000
namespace K63
open PySem PySem.Spec PyProof.Rows L2 Mz
def kidsV : Nat → List V → List (List V)
  | 0, _ => [[]]
  | r + 1, ss => (kidsV r ss).flatMap fun few => ss.map fun s => few ++ [s]
theorem kidsV_mem (ss : List V) : ∀ (r : Nat) (x : List V), x ∈ kidsV r ss → x.length = r ∧ ∀ y ∈ x, y ∈ ss
  | 0, x, h => by
    rw [List.mem_singleton.1 h]
    exact ⟨rfl, fun y hy => by cases hy⟩
  | r + 1, x, h => by
    have h : x ∈ (kidsV r ss).flatMap fun few => ss.map fun s => few ++ [s] := h
    obtain ⟨few, hf, h⟩ := List.mem_flatMap.1 h
    obtain ⟨s, hs, rfl⟩ := List.mem_map.1 h
    obtain ⟨l, m⟩ := kidsV_mem ss r few hf
    refine ⟨by rw [List.length_append, l]; rfl, fun y hy => ?_⟩
    rcases List.mem_append.1 hy with z | z
    · exact m y z
    · rw [List.mem_singleton.1 z]
      exact hs
def RV (H : Hp) (a : Addr) (w : List V) : Prop := H a = some (.tup w)
def spKidsV (K : PySem.W.Frag) : Sp := fun vs H Q _ => ∃ (a : Addr) (ss : List V) (r : Nat), vs = [.int (r : Int), .ref a] ∧ SqL K H a ss ∧ ss.length ≤ 6 ∧ r ≤ 2 ∧
  ∀ (H' : Hp) (q : Addr) (ts : List Addr), Same H H' → H q = none → H' q = some (.lst (ts.map V.ref)) → Rel RV H' ts (kidsV r ss) → Q (.ref q) H'
/-- what is ascending is found by what it holds -/
theorem asc_eq : ∀ {xs ys : List Int}, xs.Pairwise (· < ·) → ys.Pairwise (· < ·) → (∀ k, k ∈ xs ↔ k ∈ ys) → xs = ys
  | [], [], _, _, _ => rfl
  | [], y :: ys, _, _, m => absurd ((m y).2 List.mem_cons_self) (by simp)
  | x :: xs, [], _, _, m => absurd ((m x).1 List.mem_cons_self) (by simp)
  | x :: xs, y :: ys, a, b, m => by
    obtain ⟨a1, a2⟩ := List.pairwise_cons.1 a
    obtain ⟨b1, b2⟩ := List.pairwise_cons.1 b
    have e : x = y := by
      rcases List.mem_cons.1 ((m x).1 List.mem_cons_self) with z | z
      · exact z
      · rcases List.mem_cons.1 ((m y).2 List.mem_cons_self) with z' | z'
        · exact z'.symm
        · have := b1 x z
          have := a1 y z'
          omega
    subst e
    rw [asc_eq a2 b2 fun k => ⟨fun h => ?_, fun h => ?_⟩]
    · rcases List.mem_cons.1 ((m k).1 (List.mem_cons_of_mem _ h)) with z | z
      · have := a1 k h
        omega
      · exact z
    · rcases List.mem_cons.1 ((m k).2 (List.mem_cons_of_mem _ h)) with z | z
      · have := b1 k h
        omega
      · exact z
theorem rgL_asc (n : Nat) : (rgL n).Pairwise (· < ·) := by
  unfold rgL
  rw [List.pairwise_map]
  exact List.pairwise_lt_range.imp fun {a b} h => by omega
theorem asc_rg {ms : List Int} {n : Nat} (so : ms.Pairwise (· < ·)) (m : ∀ k, k ∈ ms ↔ 0 ≤ k ∧ k < (n : Int)) : ms = rgL n :=
  asc_eq so (rgL_asc n) fun k => by rw [m, rgL_mem]
def spReached : Sp := fun vs H Q _ => ∃ (m : Addr) (M : TM), vs = [.ref m] ∧ TMA H m M ∧ GoodT M ∧ AllR M ∧ ∀ (H' : Hp) (q : Addr), Same H H' → H' q = some (.lst ((rgL M.outs.length).map V.int)) → Q (.ref q) H'
section
variable {P : Program} {w : World} {K : PySem.W.Frag} {mg : Str → Option Value} {base : Heap} {A : Ads} {c Pt : Addr}
theorem ok_lawkidsV (T : Txt K mg A) : FnOk P w K mg base CX0 1 A.a_law_kids A.d_law_kids ["rank", "states"] (spKidsV K) := by
  refine T.F_law_kids.ok sc_law_kids (fun vs H Q E h => ?_) (fun cdv Ar outer s H vs Q E hr h => ?_)
  · obtain ⟨_, _, _, rfl, _⟩ := h
    rfl
  · refine ⟨_, (pss_cons (ps_if (pt_cmpR op_eq (pv 0) pe_int (nomark _)) (pss_one (ps_ret (pe_lst (pa_cons (pe_tup pa_nil) pa_nil)))) pss_nil)
      (pss_cons (ps_if (pt_cmpR op_eq (pv 0) pe_int (nomark _)) (pss_one (ps_ret (pe_lc (own := [("state", 2)]) (g := (gName 2)) (tt := tYes) rfl sc_law_kids.nd (pi_list (pv 1)) (blkOk_by (N := ["rank", "states", "state", "rows", "other"]) (sc := defScope s_law_kids) (by decide +kernel)) (fun _ _ _ _ _ => (pg_name (i := 2) sc_law_kids.nd rfl (Or.inl rfl))) (fun _ _ _ _ _ => pts_nil) (fun _ _ _ _ _ => (pe_tup (pa_cons (pv 2) pa_nil)))))) pss_nil)
      (pss_cons (ps_set (i := 3) sc_law_kids.nd rfl (Or.inl rfl) (pe_lst pa_nil))
      (pss_cons (ps_for PassesOwn.never rfl (pi_list (pv 1)) (pg_name (i := 2) sc_law_kids.nd rfl (Or.inl rfl))
        (pss_one (ps_for PassesOwn.never rfl (pi_list (pv 1)) (pg_name (i := 4) sc_law_kids.nd rfl (Or.inl rfl))
            (pss_one (ps_expr (pe_bm PySem.F.plainAttrs_list PySem.F.slot_list_append PySem.F.type_list_append mt_append (pv 3) (pa_cons (pe_tup (pa_cons (pv 2) (pa_cons (pv 4) pa_nil))) pa_nil)))))))
      (pss_one (ps_ret (pv 3))))))), ?_⟩
    obtain ⟨a, ss, r, rfl, hS, l6, r2, fin⟩ := h
    refine ⟨_, rfl, rfl, _, rfl, ?_⟩
    by_cases r0 : r = 0
    · subst r0
      refine ifDT (decide_eq_true rfl) ?_
      refine ⟨(by show 0 ≤ sizeLine; decide), fun q0 hq0 => ?_⟩
      have s1 := same_upd (o := .tup []) (Same.refl H) hq0
      have e0 : (upd H q0 (.tup [])) q0 = some (.tup []) := upd_same
      generalize upd H q0 (.tup []) = H1 at *
      refine ⟨(by show 1 ≤ sizeLine; decide), fun q1 hq1 => ?_⟩
      have s2 := same_upd (o := .lst [.ref q0]) (Same.refl H1) hq1
      refine fin _ q1 [q0] (s1.trans s2) (s1.free hq1) upd_same ⟨rfl, fun i t x h1 h2 => ?_⟩
      match i, h1, h2 with
      | 0, h1, h2 =>
        cases h1
        cases h2
        exact s2 _ _ e0
    refine ifDF (decide_eq_false (fun z => r0 (by
      have : ((r : Nat) : Int) = 0 := by injection z
      omega))) ?_
    refine ⟨_, rfl, rfl, _, rfl, ?_⟩
    by_cases r1 : r = 1
    · subst r1
      refine ifDT (decide_eq_true rfl) ?_
      refine ⟨_, rfl, a, rfl, ⟨_, hS⟩, fun D hD => ?_⟩
      refine it_any walk_list (fun j H' => Same H H' ∧ ∃ us : List Addr, H' D = some (.lst (us.map V.ref)) ∧ Rel RV H' us ((ss.take j).map fun s => [s])) ⟨same_upd (Same.refl _) hD, [], upd_same, Rel.nil⟩ (fun j H' _ z => same_seq z.1 hS) ?_ ?_
      · rintro j y H5x H5 hj ⟨s5, us5, e5, r5⟩ ⟨rfl, hy⟩
        have es := hy
        generalize y = s at *
        have lj : j < 6 := by
          have := (List.getElem?_eq_some_iff.1 es).1
          omega
        refine ⟨rfl, _, rfl, (by show 1 ≤ sizeLine; decide), fun u hu => ?_⟩
        have s6 := same_upd (o := .tup [s]) (Same.refl H5) hu
        have eu : (upd H5 u (.tup [s])) u = some (.tup [s]) := upd_same
        generalize upd H5 u (.tup [s]) = H6 at *
        have e6 := s6 _ _ e5
        have lus : us5.length ≤ 6 := by
          rw [r5.1, List.length_map, List.length_take]
          omega
        have ne : ∀ {a : Addr} {w : List V}, RV H6 a w → RV (upd H6 D (.lst (us5.map V.ref ++ [.ref u]))) a w := fun {a w} h => (upd_ne fun z => by
          have h : H6 a = some (.tup w) := h
          rw [z, e6] at h
          cases h).trans h
        refine ⟨_, e6, Nat.lt_of_le_of_lt (by rw [List.length_map]; omega : _ ≤ 1000) (by decide), same_set (s5.trans s6) hD, us5 ++ [u], by rw [upd_same, List.map_append]; rfl, ?_⟩
        rw [take_more es, List.map_append]
        exact Rel.push (Rel.imp r5 fun _ _ h => ne (s6 _ _ h)) (ne eu)
      · rintro H5 ⟨s5, us5, e5, r5⟩
        rw [List.take_length] at r5
        have ek : kidsV 1 ss = ss.map fun s => [s] := by
          show [[]].flatMap _ = _
          rw [List.flatMap_singleton]
          rfl
        exact fin H5 D us5 s5 hD e5 (by rw [ek]; exact r5)
    have r2' : r = 2 := by omega
    subst r2'
    refine ifDF (by decide) ?_
    refine ⟨(by show 0 ≤ sizeLine; decide), fun D hD => ?_⟩
    have sD := same_upd (o := .lst []) (Same.refl H) hD
    have eD : (upd H D (.lst [])) D = some (.lst (([] : List Addr).map V.ref)) := upd_same
    generalize upd H D (.lst []) = H1 at *
    have lm : ss.length = ss.length := rfl
    refine ⟨_, rfl, a, rfl, ⟨_, same_seq sD hS⟩, ?_⟩
    refine for_it walk_list (fun i σ H' => ∃ (v2 v4 : Option V) (us : List Addr), σ = [some (.int ((2 : Nat) : Int)), some (.ref a), v2, some (.ref D), v4] ∧ Same H H' ∧ H' D = some (.lst (us.map V.ref)) ∧ Rel RV H' us ((ss.take i).flatMap fun x => ss.map fun s => [x, s])) ⟨_, _, [], rfl, sD, eD, Rel.nil⟩ (fun i σ H' _ ⟨_, _, _, _, s, _⟩ => same_seq s hS) ?_ ?_
    · rintro i x σ H2x H2 hi ⟨v2, v4, us, rfl, s2, e2, r2⟩ ⟨rfl, hx⟩
      have ex := hx
      have li : i < 6 := by
        have := (List.getElem?_eq_some_iff.1 ex).1
        omega
      refine ⟨_, rfl, a, rfl, ⟨_, same_seq s2 hS⟩, ?_⟩
      refine for_it walk_list (fun j σ H' => ∃ (v4 : Option V) (us : List Addr), σ = [some (.int ((2 : Nat) : Int)), some (.ref a), some x, some (.ref D), v4] ∧ Same H H' ∧ H' D = some (.lst (us.map V.ref)) ∧ Rel RV H' us (((ss.take i).flatMap fun x => ss.map fun s => [x, s]) ++ (ss.take j).map fun s => [x, s])) ⟨_, us, rfl, s2, e2, by rw [List.take_zero, List.map_nil, List.append_nil]; exact r2⟩ (fun j σ H' _ ⟨_, _, _, s, _⟩ => same_seq s hS) ?_ ?_
      · rintro j y σ H3x H3 hj ⟨v4', us3, rfl, s3, e3, r3⟩ ⟨rfl, hy⟩
        have ey := hy
        have lj : j < 6 := by
          have := (List.getElem?_eq_some_iff.1 ey).1
          omega
        refine ⟨_, rfl, .inl ⟨rfl, _, SqL.of e3⟩, _, rfl, _, rfl, (by show 2 ≤ sizeLine; decide), fun u hu => ?_⟩
        have s4 := same_upd (o := .tup [x, y]) (Same.refl H3) hu
        have eu : (upd H3 u (.tup [x, y])) u = some (.tup [x, y]) := upd_same
        generalize upd H3 u (.tup [x, y]) = H4 at *
        have e4 := s4 _ _ e3
        have lus : us3.length ≤ 100 := by
          rw [r3.1, List.length_append, List.length_map, List.length_take, List.length_flatMap]
          have e : ((ss.take i).map fun x => (ss.map fun s => [x, s]).length) = (ss.take i).map fun _ => ss.length := List.map_congr_left fun x _ => List.length_map ..
          rw [e, List.map_const', List.sum_replicate_nat, List.length_take]
          have : min i ss.length * ss.length ≤ 6 * 6 := Nat.mul_le_mul (by omega) l6
          omega
        have ne : ∀ {a : Addr} {w : List V}, RV H4 a w → RV (upd H4 D (.lst (us3.map V.ref ++ [.ref u]))) a w := fun {a w} h => (upd_ne fun z => by
          have h : H4 a = some (.tup w) := h
          rw [z, e4] at h
          cases h).trans h
        refine ⟨D, _, _, rfl, rfl, e4, Nat.lt_of_le_of_lt (by rw [List.length_map]; omega : _ ≤ 1000) (by decide), ?_⟩
        refine ⟨_, us3 ++ [u], rfl, same_set (s3.trans s4) hD, by rw [upd_same, List.map_append]; rfl, ?_⟩
        rw [take_more ey, List.map_append, ← List.append_assoc]
        exact Rel.push (Rel.imp r3 fun _ _ h => ne (s4 _ _ h)) (ne eu)
      · rintro σ H3 ⟨v4', us3, rfl, s3, e3, r3⟩
        rw [List.take_length] at r3
        refine ⟨_, _, us3, rfl, s3, e3, ?_⟩
        rw [take_more ex, List.flatMap_append, List.flatMap_singleton]
        exact r3
    · rintro σ H2 ⟨v2, v4, us, rfl, s2, e2, r2⟩
      rw [List.take_length] at r2
      have e1 : kidsV 1 ss = ss.map fun s => [s] := by
        show [[]].flatMap _ = _
        rw [List.flatMap_singleton]
        rfl
      have ek : kidsV 2 ss = ss.flatMap fun x => ss.map fun s => [x, s] := by
        show (kidsV 1 ss).flatMap _ = _
        rw [e1, List.flatMap_map]
        rfl
      exact ⟨_, rfl, fin H2 D us s2 hD e2 (by rw [ek]; exact r2)⟩

theorem ok_reached (T : Txt K mg A) : FnOk P w K mg base CX0 2 A.a_law_reached A.d_law_reached ["machine"] spReached := by
  have G_law_kids := ok_lawkids (P := P) (w := w) (base := base) T
  have G_law_rule := ok_ruleT (P := P) (w := w) (base := base) T
  refine T.F_law_reached.ok sc_law_reached (fun vs H Q E h => ?_) (fun cdv Ar outer s H vs Q E hr h => ?_)
  · obtain ⟨_, _, rfl, _⟩ := h
    rfl
  · have hr_law_kids : Room 1 _ := hr
    have hr_law_rule : Room 1 _ := hr
    refine ⟨_, (pss_cons (ps_set (i := 1) sc_law_reached.nd rfl (Or.inl rfl) (pe_lst pa_nil))
      (pss_cons (ps_for PassesOwn.never rfl (pi_range1 (by rfl) T.n_range (pa_cons (pe_callB call_len_seq (by rfl) T.n_len PySem.boot_len (pa_cons (pe_ix (r := rIx K) ix_seq (pv 0) pe_int (fun _ _ => rfl)) pa_nil)) pa_nil)) (pg_name (i := 2) sc_law_reached.nd rfl (Or.inl rfl))
        (pss_one (ps_for PassesOwn.never rfl (pi_range1 (by rfl) T.n_range (pa_cons (pe_callB call_len_seq (by rfl) T.n_len PySem.boot_len (pa_cons (pe_ix (r := rIx K) ix_seq (pv 0) pe_int (fun _ _ => rfl)) pa_nil)) pa_nil)) (pg_name (i := 3) sc_law_reached.nd rfl (Or.inl rfl))
            (pss_one (ps_for PassesOwn.never rfl (pi_list (pe_call G_law_kids hr_law_kids (by rfl) T.g_law_kids T.F_law_kids.kp T.b_law_kids .nil pass0 (pa_cons (pe_ix (r := rIx K) ix_seq (pe_ix (r := rIx K) ix_seq (pv 0) pe_int (fun _ _ => rfl)) (pv 3) (fun _ _ => rfl)) (pa_cons (pe_callTy call_list_of (by rfl) T.n_list (by decide +kernel) (pa_cons (pv 1) pa_nil)) pa_nil)))) (pg_name (i := 4) sc_law_reached.nd rfl (Or.inl rfl))
                (pss_cons (ps_set (i := 5) sc_law_reached.nd rfl (Or.inl rfl) (pe_call G_law_rule hr_law_rule (by rfl) T.g_law_rule T.F_law_rule.kp T.b_law_rule .nil pass0 (pa_cons (pv 0) (pa_cons (pv 3) (pa_cons (pv 4) pa_nil)))))
                  (pss_one (ps_if (pt_cmpR op_notIn_seq (pv 5) (pv 1) rfl) (pss_one (ps_expr (pe_bm PySem.F.plainAttrs_list PySem.F.slot_list_append PySem.F.type_list_append mt_append (pv 1) (pa_cons (pv 5) pa_nil)))) pss_nil))))))))
      (pss_one (ps_ret (pe_callB cr_sorted (by rfl) T.n_sorted (by decide +kernel) (pa_cons (pv 1) pa_nil)))))), ?_⟩
    obtain ⟨m, M, rfl, hMA, g, all, fin⟩ := h
    obtain ⟨r, ru, ou, qs, hM⟩ := id hMA
    have n6 := g.n6
    have n1 := g.n1
    have r5 := (ranks_iff.mp g.rk).2.1
    refine ⟨Nat.zero_le _, fun q hq => ?_⟩
    have s0 := same_upd (o := .lst []) (Same.refl H) hq
    have e0 : (upd H q (.lst [])) q = some (.lst (([] : List Int).map V.int)) := upd_same
    generalize upd H q (.lst []) = H0 at *
    have sl : ∀ {xs : List Int}, (xs.map V.int).length = xs.length := fun {xs} => List.length_map ..
    have inr : ∀ {xs : List Int}, xs.Nodup → (∀ p ∈ xs, Reach M p) → xs.length ≤ M.outs.length := fun nd h => in_range_len nd fun k hk => (h k hk).rg g
    refine ⟨_, rfl, .inr (.inl ⟨m, _, 3, _, rfl, rfl, SqT.of (s0 _ _ hM.top), rfl, ?_⟩)⟩
    refine ⟨ou, _, rfl, .inr (SqT.of (s0 _ _ hM.ou)), ?_⟩
    rw [sl]
    refine ⟨M.outs.length, rfl, by omega, by omega, for_range (fun t σ H' => ∃ (v2 v3 v4 v5 : Option V) (ms : List Int), σ = [some (.ref m), some (.ref q), v2, v3, v4, v5] ∧ Same H H' ∧ H' q = some (.lst (ms.map V.int)) ∧ ms.Nodup ∧ (∀ p ∈ ms, Reach M p) ∧ ((∀ p, Rg M p → p ∈ ms) ∨ t ≤ ms.length)) ⟨none, none, none, none, [], rfl, s0, e0, .nil, (fun p hp => by cases hp), .inr (Nat.zero_le _)⟩ ?_ ?_⟩
    · rintro t σ H1 ht ⟨v2, v3, v4, v5, ms, rfl, s1, e1, nd, rch, gr⟩
      refine ⟨_, rfl, .inr (.inl ⟨m, _, 0, _, rfl, rfl, SqT.of (s1 _ _ hM.top), rfl, ?_⟩)⟩
      refine ⟨r, _, rfl, .inr (rd_t (rd_same s1 hM.rs)), ?_⟩
      rw [sl]
      refine ⟨M.rs.length, rfl, by omega, by omega, for_range (fun i σ H' => ∃ (v2 v3 v4 v5 : Option V) (fs : List Int), σ = [some (.ref m), some (.ref q), v2, v3, v4, v5] ∧ Same H H' ∧ H' q = some (.lst (fs.map V.int)) ∧ fs.Nodup ∧ (∀ p ∈ fs, Reach M p) ∧ (∀ p ∈ ms, p ∈ fs) ∧ ∀ s ks, s < i → KR M (· ∈ ms) s ks → M.to s ks ∈ fs) ⟨_, _, _, _, ms, rfl, s1, e1, nd, rch, fun p hp => hp, fun s ks h => absurd h (Nat.not_lt_zero s)⟩ ?_ ?_⟩
      · rintro i σ H2 hi ⟨w2, w3, w4, w5, fs, rfl, s2, e2, ndf, rf, sub, clo⟩
        have il : i < M.rs.length := hi
        obtain ⟨rk0, rk3⟩ := rank_rg g il
        have eR := rank_at il
        have iz : ((0 : Int) + (i : Int)).toNat = i := by omega
        refine ⟨_, rfl, .inr (.inl ⟨m, _, 0, _, rfl, rfl, SqT.of (s2 _ _ hM.top), rfl, ?_⟩)⟩
        refine ⟨_, rfl, .inr (.inl ⟨r, _, _, _, rfl, rfl, rd_t (rd_same s2 hM.rs), atI_get? (by omega) (by rw [iz]; exact eR), ?_⟩)⟩
        refine ⟨_, rfl, q, _, rfl, .inl (SqL.of e2), fun l hl => ?_⟩
        have s3 := same_upd (o := .lst (fs.map V.int)) (Same.refl H2) hl
        have e3 : (upd H2 l (.lst (fs.map V.int))) l = some (.lst (fs.map V.int)) := upd_same
        generalize upd H2 l (.lst (fs.map V.int)) = H3 at *
        have lf := inr ndf rf
        refine ⟨l, fs, (M.rank (i : Int)).toNat, by rw [Int.toNat_of_nonneg rk0]; rfl, SqL.of e3, by omega, by omega, fun H4 ql ts s4 nq eq rel => ?_⟩
        have s24 := s3.trans s4
        have e4 := s24 _ _ e2
        have qlq : ql ≠ q := fun z => by rw [z, s3 _ _ e2] at nq; cases nq
        refine ⟨ql, rfl, ⟨_, SqL.of eq⟩, ?_⟩
        have fq : H q = none := hq
        refine for_it (walk_list (xs := ts.map V.ref)) (fun j σ H' => ∃ (w4 w5 : Option V) (fs' : List Int), σ = [some (.ref m), some (.ref q), w2, some (.int (0 + (i : Int))), w4, w5] ∧ Same H H' ∧ Kq q H4 H' ∧ H' q = some (.lst (fs'.map V.int)) ∧ fs'.Nodup ∧ (∀ p ∈ fs', Reach M p) ∧ (∀ p ∈ fs, p ∈ fs') ∧ ∀ ks ∈ (kidsL (M.rank (i : Int)).toNat fs).take j, M.to i ks ∈ fs')
          ⟨w4, w5, fs, rfl, s2.trans s24, Kq.refl, e4, ndf, rf, fun p hp => hp, fun ks h => by rw [List.take_zero] at h; cases h⟩ (fun j σ H' _ ⟨_, _, _, _, _, k, _⟩ => SqL.of (k _ _ qlq eq)) ?_ ?_
        · rintro j y σ H6x H6 hj ⟨w4, w5, fs', rfl, s6, k6, e6, nd6, r6, sub6, dn⟩ ⟨rfl, hy⟩
          obtain ⟨tj, htj, rfl⟩ := ofV hy
          obtain ⟨ks, eks, hks⟩ := rel.to htj
          have hks : H4 tj = some (.tup (ks.map V.int)) := hks
          have hks6 := k6 _ _ (fun z => by rw [z, e4] at hks; cases hks) hks
          have mem := (kidsL_mem fs (M.rank (i : Int)).toNat ks).1 (List.mem_of_getElem? eks)
          have kr : KR M (Rg M) i ks := ⟨il, mem.1, fun k hk => (rf k (mem.2 k hk)).rg g⟩
          have rt : Reach M (M.to i ks) := .mk i ks il mem.1 fun k hk => rf k (mem.2 k hk)
          refine ⟨_, rfl, _, rfl, _, rfl, m, tj, M, _, ks, rfl, hMA.same s6, g, by omega, by omega, SqT.of hks6, kr.dom, by rw [Int.zero_add]; exact kr.len, ?_⟩
          have ez : M.to (0 + (i : Int)) ks = M.to (i : Int) ks := by rw [Int.zero_add]
          rw [ez]
          refine ⟨_, rfl, _, rfl, q, _, rfl, .inl (SqL.of e6), rfl, flatI fs', ?_⟩
          have iv : inV (V.int (M.to (i : Int) ks)) (fs'.map V.int) = decide (M.to (i : Int) ks ∈ fs') := inVI _ _
          refine ⟨_, rfl, ?_⟩
          by_cases c : M.to (i : Int) ks ∈ fs'
          · refine ifDF (by rw [iv, decide_eq_true c]; rfl) ?_
            refine ⟨_, _, fs', rfl, s6, k6, e6, nd6, r6, sub6, fun ks' h => ?_⟩
            rw [take_more eks] at h
            rcases List.mem_append.1 h with z | z
            · exact dn ks' z
            · rw [List.mem_singleton.1 z]
              exact c
          · refine ifDT (by rw [iv, decide_eq_false c]; rfl) ?_
            have l6 := inr nd6 r6
            refine ⟨_, rfl, .inl ⟨rfl, _, SqL.of e6⟩, _, rfl, q, _, _, rfl, rfl, e6, Nat.lt_of_le_of_lt (by rw [List.length_map]; omega : _ ≤ 6) (by decide), ?_⟩
            refine ⟨_, _, fs' ++ [M.to (i : Int) ks], rfl, same_set s6 fq, k6.trans Kq.set, by rw [upd_same, List.map_append]; rfl, ?_, fun p hp => ?_, fun p hp => List.mem_append_left _ (sub6 p hp), fun ks' h => ?_⟩
            · have := addK_nd nd6 (M.to (i : Int) ks)
              rwa [addK_new c] at this
            · rcases List.mem_append.1 hp with z | z
              · exact r6 p z
              · rw [List.mem_singleton.1 z]; exact rt
            · rw [take_more eks] at h
              rcases List.mem_append.1 h with z | z
              · exact List.mem_append_left _ (dn ks' z)
              · rw [List.mem_singleton.1 z]
                exact List.mem_append_right _ (List.mem_singleton.2 rfl)
        · rintro σ H6 ⟨w4, w5, fs', rfl, s6, k6, e6, nd6, r6, sub6, dn⟩
          rw [List.length_map, rel.1, List.take_length] at dn
          refine ⟨_, _, _, _, fs', rfl, s6, e6, nd6, r6, fun p hp => sub6 p (sub p hp), fun s ks h hk => ?_⟩
          rcases Nat.lt_succ_iff_lt_or_eq.1 h with z | z
          · exact sub6 _ (clo s ks z hk)
          · subst z
            exact dn ks ((kidsL_mem _ _ _).2 ⟨hk.len, fun k hk' => sub k (hk.dom k hk')⟩)
      · rintro σ H2 ⟨w2, w3, w4, w5, fs, rfl, s2, e2, ndf, rf, sub, clo⟩
        refine ⟨_, _, _, _, fs, rfl, s2, e2, ndf, rf, ?_⟩
        rcases gr with a | a
        · exact .inl fun p hp => sub p (a p hp)
        · have lm := nodup_len nd sub
          by_cases c : ms.length < fs.length
          · exact .inr (by omega)
          · have back := nodup_all nd sub (by omega)
            refine .inl fun p hp => ?_
            have := all p hp
            clear hp
            induction this with
            | mk s ks hs hl _ ih => exact clo s ks hs ⟨hs, hl, fun k hk => back k (ih k hk)⟩
    · rintro σ H1 ⟨v2, v3, v4, v5, ms, rfl, s1, e1, nd, rch, gr⟩
      have lm := inr nd rch
      refine ⟨_, rfl, q, ms, rfl, SqL.of e1, by omega, fun ys p' pm so hp' => ?_⟩
      have mem : ∀ k, k ∈ ms ↔ 0 ≤ k ∧ k < (M.outs.length : Int) := fun k => ⟨fun h => (rch k h).rg g, fun h => by
        rcases gr with a | a
        · exact a k h
        · exact nodup_all nd (ys := rgL M.outs.length) (fun x hx => rgL_mem.2 ((rch x hx).rg g)) (by unfold rgL; rw [List.length_map, List.length_range]; exact a) k (rgL_mem.2 h)⟩
      have ey : ys = rgL M.outs.length := asc_rg (sorted_lt so (pm.nodup_iff.2 nd)) fun k => by rw [pm.mem_iff, mem]
      rw [ey]
      exact fin _ p' (same_upd s1 hp') upd_same
end
end K63

set_option Elab.async false
set_option linter.all false
set_option maxRecDepth 100000
set_option maxHeartbeats 4000000
/-! == and != of machines -/
namespace Mz
open PySem PySem.Spec PyProof.Rows L2
def dRow (w : List Int) : PyData := .tuple (w.map .int)
def dMach (M : Mach) : PyData := .tuple [.int M.ls, .int M.os, .tuple (M.rows.map dRow), dRow M.outs]
theorem depthI : ∀ ns : List Int, PyData.depthAll (ns.map PyData.int) ≤ 1
  | [] => by simp [PyData.depthAll]
  | _ :: r => by
    have := depthI r
    simp only [List.map_cons, PyData.depthAll, PyData.depth]
    omega
theorem lay_ints : ∀ ns : List Int, PyData.canLayAll0 (ns.map PyData.int) = true
  | [] => by simp [PyData.canLayAll0]
  | _ :: r => by simp [PyData.canLayAll0, PyData.canLay0, lay_ints r]
theorem depth_rows : ∀ rs : List (List Int), PyData.depthAll (rs.map dRow) ≤ 2
  | [] => by simp [PyData.depthAll]
  | w :: r => by
    have := depth_rows r
    have := depthI w
    simp only [List.map_cons, PyData.depthAll]
    have e : PyData.depth (dRow w) = 1 + PyData.depthAll (w.map PyData.int) ∨ PyData.depth (dRow w) = PyData.depthAll (w.map PyData.int) + 1 := by
      unfold dRow
      simp only [PyData.depth]
      omega
    omega
theorem lay_rows : ∀ rs : List (List Int), PyData.canLayAll0 (rs.map dRow) = true
  | [] => by simp [PyData.canLayAll0]
  | w :: r => by
    have := lay_rows r
    have := lay_ints w
    simp [PyData.canLayAll0, dRow, PyData.canLay0, *]
theorem lay_mach (M : Mach) : PyData.canLay0 (dMach M) = true := by
  have := lay_rows M.rows
  have := lay_ints M.outs
  unfold dMach dRow at *
  simp [PyData.canLayAll0, PyData.canLay0, *]
theorem shaped_mach (M : Mach) : SeqAt.shaped (dMach M) = true := by
  have h1 := depth_rows M.rows
  have h2 := depthI M.outs
  have h3 : PyData.depth (dMach M) ≤ 64 := by
    have e : PyData.depth (dRow M.outs) ≤ PyData.depthAll (M.outs.map PyData.int) + 1 := by
      unfold dRow
      simp only [PyData.depth]
      omega
    unfold dMach
    simp only [PyData.depthAll, PyData.depth]
    omega
  show (PyData.canLay0 (dMach M) && decide (PyData.depth (dMach M) ≤ 64)) = true
  rw [lay_mach, decide_eq_true h3]
  rfl
theorem dp_rows {K : PySem.W.Frag} {H : Hp} : ∀ (rs : List Addr) (rows : List (List Int)), rs.length = rows.length → (∀ (i : Nat) (r : Addr) (w : List Int), rs[i]? = some r → rows[i]? = some w → IT H r w) → DpAll K H (rs.map V.ref) (rows.map dRow)
  | [], [], _, _ => .nil
  | r :: rs, w :: rows, l, h => .cons (.tup (SqT.of (h 0 r w rfl rfl)) (dp_ints w)) (dp_rows rs rows (by simpa using l) fun i r w a b => h (i + 1) r w a b)
  | [], _ :: _, l, _ => by simp at l
  | _ :: _, [], l, _ => by simp at l
theorem dp_mach {K : PySem.W.Frag} {H : Hp} {m : Addr} {M : Mach} (h : MA H m M) : Dp K H (.ref m) (dMach M) := by
  obtain ⟨mv, ou, rs, hM⟩ := h
  exact .tup (SqT.of hM.top) (.cons (.int _) (.cons (.int _) (.cons (.tup (SqT.of hM.mv) (dp_rows rs M.rows hM.len hM.row)) (.cons (.tup (SqT.of hM.ou) (dp_ints M.outs)) .nil))))
section
variable {K : PySem.W.Frag} {H : Hp} {a b : Addr} {M : Mach} {Q : VK}
theorem eq_mach (h1 : MA H a M) (h2 : MA H b M) (q : Q (.bl true) H) : rEqD K (.ref a) (.ref b) H Q :=
  ⟨_, _, dp_mach h1, dp_mach h2, shaped_mach M, shaped_mach M, by rw [SeqAt.eqv_refl _ (lay_mach M)]; exact q⟩
theorem ne_mach (h1 : MA H a M) (h2 : MA H b M) (q : Q (.bl false) H) : rNeD K (.ref a) (.ref b) H Q :=
  ⟨_, _, dp_mach h1, dp_mach h2, shaped_mach M, shaped_mach M, by rw [SeqAt.eqv_refl _ (lay_mach M)]; exact q⟩
end
def rMinK (K : PySem.W.Frag) : List V → Hp → VK → Prop := rMin K
theorem call_minK {X : Cx} (hc : X.calm = true) : CallR X (.builtin "min") (rMinK X.K) := cr_min hc
end Mz

set_option Elab.async false
set_option linter.all false
set_option maxRecDepth 100000
set_option maxHeartbeats 4000000
/-! lists of lists of ints as data: in, not in, index; kinds of states -/
namespace Mz
open PySem PySem.Spec PyProof.Rows L2
theorem hu65 {k : Nat} {A : Around} (r : Room k A) : A.units + 65 < cLine := by
  have := r.un
  omega
def dLst (w : List Int) : PyData := .list (w.map .int)
def dLL (D : List (List Int)) : PyData := .list (D.map dLst)
theorem lay_lls : ∀ rs : List (List Int), PyData.canLayAll0 (rs.map dLst) = true
  | [] => by simp [PyData.canLayAll0]
  | w :: r => by
    have := lay_lls r
    have := lay_ints w
    simp [PyData.canLayAll0, dLst, PyData.canLay0, *]
theorem depth_lls : ∀ rs : List (List Int), PyData.depthAll (rs.map dLst) ≤ 2
  | [] => by simp [PyData.depthAll]
  | w :: r => by
    have := depth_lls r
    have := depthI w
    simp only [List.map_cons, PyData.depthAll]
    have e : PyData.depth (dLst w) ≤ PyData.depthAll (w.map PyData.int) + 1 := by
      unfold dLst
      simp only [PyData.depth]
      omega
    omega
theorem shaped_ll (D : List (List Int)) : SeqAt.shaped (dLL D) = true := by
  have h1 := depth_lls D
  have h3 : PyData.depth (dLL D) ≤ 64 := by
    unfold dLL
    simp only [PyData.depth]
    omega
  have h4 : PyData.canLay0 (dLL D) = true := by
    unfold dLL
    simp only [PyData.canLay0]
    exact lay_lls D
  show (PyData.canLay0 (dLL D) && decide (PyData.depth (dLL D) ≤ 64)) = true
  rw [h4, decide_eq_true h3]
  rfl
theorem shaped_l (w : List Int) : SeqAt.shaped (dLst w) = true := PySem.W.shaped_ints w
theorem eqv_l (a b : List Int) : PyData.eqv (dLst a) (dLst b) = decide (a = b) := eqv_lists a b
theorem any_ll (D : List (List Int)) (w : List Int) : ((D.map dLst).any fun z => PyData.eqv z (dLst w)) = decide (w ∈ D) := by
  rw [List.any_map, Bool.eq_iff_iff, List.any_eq_true, decide_eq_true_iff]
  constructor
  · rintro ⟨x, hx, h⟩
    have : PyData.eqv (dLst x) (dLst w) = true := h
    rw [eqv_l] at this
    rw [← of_decide_eq_true this]
    exact hx
  · intro h
    exact ⟨w, h, by show PyData.eqv (dLst w) (dLst w) = true; rw [eqv_l]; exact decide_eq_true rfl⟩
/-- a list of lists of ints -/
def LL (H : Hp) (as : List Addr) (D : List (List Int)) : Prop := as.length = D.length ∧ ∀ (i : Nat) (a : Addr) (w : List Int), as[i]? = some a → D[i]? = some w → H a = some (.lst (w.map V.int))
theorem LL.same {H H' : Hp} {as : List Addr} {D : List (List Int)} (h : LL H as D) (s : Same H H') : LL H' as D := ⟨h.1, fun i a w h1 h2 => s _ _ (h.2 i a w h1 h2)⟩
theorem dp_lls {K : PySem.W.Frag} {H : Hp} : ∀ {as : List Addr} {D : List (List Int)}, LL H as D → DpAll K H (as.map V.ref) (D.map dLst)
  | [], [], _ => .nil
  | a :: as, w :: D, h => .cons (.lst (SqL.of (h.2 0 a w rfl rfl)) (dp_ints w)) (dp_lls (as := as) (D := D) ⟨by have := h.1; simpa using this, fun i r w a b => h.2 (i + 1) r w a b⟩)
  | [], _ :: _, h => by have := h.1; simp at this
  | _ :: _, [], h => by have := h.1; simp at this
theorem dp_ll {K : PySem.W.Frag} {H : Hp} {p : Addr} {as : List Addr} {D : List (List Int)} (hp : H p = some (.lst (as.map V.ref))) (h : LL H as D) : Dp K H (.ref p) (dLL D) := .lst (SqL.of hp) (dp_lls h)
theorem dp_l {K : PySem.W.Frag} {H : Hp} {p : Addr} {w : List Int} (hp : H p = some (.lst (w.map V.int))) : Dp K H (.ref p) (dLst w) := .lst (SqL.of hp) (dp_ints w)
section
variable {K : PySem.W.Frag} {H : Hp} {p r : Addr} {as : List Addr} {D : List (List Int)} {w : List Int} {Q : VK}
theorem notin_ll (hr : H r = some (.lst (w.map V.int))) (hp : H p = some (.lst (as.map V.ref))) (h : LL H as D) (q : Q (.bl (!decide (w ∈ D))) H) : rNotInD K (.ref r) (.ref p) H Q :=
  ⟨dLst w, D.map dLst, dp_l hr, dp_ll hp h, shaped_l w, shaped_ll D, by rw [any_ll]; exact q⟩
theorem index_ll (hr : H r = some (.lst (w.map V.int))) (hp : H p = some (.lst (as.map V.ref))) (h : LL H as D) (m : w ∈ D) (q : Q (.int ((D.findIdx fun y => decide (y = w) : Nat))) H) : rIndexD K (.ref p) [.ref r] H Q := by
  have l : D.findIdx (fun y => decide (y = w)) < D.length := List.findIdx_lt_length_of_exists ⟨w, m, decide_eq_true rfl⟩
  have e : D[D.findIdx (fun y => decide (y = w))] = w := of_decide_eq_true (List.findIdx_getElem (w := l))
  refine ⟨p, .ref r, dLst w, D.map dLst, D.findIdx (fun y => decide (y = w)), dLst w, rfl, rfl, dp_ll hp h, dp_l hr, shaped_ll D, shaped_l w, ?_, by rw [eqv_l]; exact decide_eq_true rfl, fun k z hk hz => ?_, q⟩
  · rw [List.getElem?_map, List.getElem?_eq_getElem l, e]
    rfl
  · have h2 : ∃ x, D[k]? = some x ∧ z = dLst x := by
      rw [List.getElem?_map] at hz
      cases e2 : D[k]? with
      | none => rw [e2] at hz; cases hz
      | some x => rw [e2] at hz; exact ⟨x, rfl, (Option.some.inj hz).symm⟩
    obtain ⟨x, hx, rfl⟩ := h2
    rw [eqv_l]
    have h1 := List.not_of_lt_findIdx hk
    obtain ⟨lx, ex⟩ := List.getElem?_eq_some_iff.mp hx
    rw [ex] at h1
    simpa using h1
end
/-! ### kinds -/
/-- numbers that are equal just for related states -/
def Kinds (R : Nat → Nat → Prop) (n : Nat) (kd : List Int) : Prop := kd.length = n ∧ ∀ i j, i < n → j < n → (kd.getD i 0 = kd.getD j 0 ↔ R i j)
/-- the row of kinds of a state -/
def kRow (M : Mach) (kd : List Int) (i : Nat) : List Int := kd.getD i 0 :: (M.rows.getD i []).map fun z => kd.getD z.toNat 0
theorem kRow_iff {M : Mach} (g : Good M) {kd : List Int} {t : Nat} (k : Kinds (RM M t) M.rows.length kd) {i j : Nat} (hi : i < M.rows.length) (hj : j < M.rows.length) : kRow M kd i = kRow M kd j ↔ RM M (t + 1) i j := by
  have si : M.St (i : Int) := ⟨by omega, by omega⟩
  have sj : M.St (j : Int) := ⟨by omega, by omega⟩
  rw [RM_succ g si sj]
  unfold kRow
  obtain ⟨wi, a1, a2, a3⟩ := g.row si
  obtain ⟨wj, b1, b2, b3⟩ := g.row sj
  rw [show ((i : Int)).toNat = i by omega] at a1 a3
  rw [show ((j : Int)).toNat = j by omega] at b1 b3
  rw [a3, b3]
  have li := g.rl wi a2
  have lj := g.rl wj b2
  have nx : ∀ {s : Nat} {w : List Int} {a : Int}, M.rows.getD s [] = w → 0 ≤ a → ∀ (h : a.toNat < w.length), M.next (s : Int) a = w[a.toNat] := fun {s w a} e h0 h => by
    unfold Mach.next
    rw [show ((s : Int)).toNat = s by omega, e, List.getD_eq_getElem?_getD, List.getElem?_eq_getElem h]
    rfl
  have inb : ∀ {w : List Int}, w ∈ M.rows → ∀ {q : Nat} (h : q < w.length), (w[q]).toNat < M.rows.length := fun {w} hw {q} h => by
    have := g.rb w hw _ (List.getElem_mem h)
    omega
  constructor
  · intro h
    injection h with h1 h2
    refine ⟨(k.2 i j hi hj).mp h1, fun a a0 a1' => ?_⟩
    have la : a.toNat < wi.length := by omega
    have lb : a.toNat < wj.length := by omega
    have e : (wi.map fun z => kd.getD z.toNat 0)[a.toNat]? = (wj.map fun z => kd.getD z.toNat 0)[a.toNat]? := by rw [h2]
    rw [List.getElem?_map, List.getElem?_map, List.getElem?_eq_getElem la, List.getElem?_eq_getElem lb] at e
    have e := Option.some.inj e
    rw [nx a3 a0 la, nx b3 a0 lb]
    exact (k.2 _ _ (inb a2 la) (inb b2 lb)).mp e
  · rintro ⟨h1, h2⟩
    rw [(k.2 i j hi hj).mpr h1]
    congr 1
    apply List.ext_getElem
    · rw [List.length_map, List.length_map]
      omega
    · intro q q1 q2
      rw [List.length_map] at q1 q2
      rw [List.getElem_map, List.getElem_map]
      refine (k.2 _ _ (inb a2 q1) (inb b2 q2)).mpr ?_
      have := h2 (q : Int) (by omega) (by omega)
      rw [nx a3 (by omega) (show ((q : Int)).toNat < wi.length by omega), nx b3 (by omega) (show ((q : Int)).toNat < wj.length by omega)] at this
      exact this
theorem kinds_zero {M : Mach} (g : Good M) : Kinds (RM M 0) M.rows.length M.outs := ⟨g.ol, fun i j _ _ => by
  rw [RM_zero]
  rfl⟩
/-- behind as many rounds as states, the kinds are final -/
theorem kinds_all {M : Mach} (g : Good M) {kd : List Int} (k : Kinds (RM M M.rows.length) M.rows.length kd) : Kinds (EqM M) M.rows.length kd := by
  have n1 := g.s1
  have stop : ∃ e, e < M.rows.length ∧ ∀ i j, i < M.rows.length → j < M.rows.length → RM M e i j → RM M (e + 1) i j := by
    refine Classical.byContradiction fun n => ?_
    have := fine_few (n := M.rows.length) (d := M.rows.length) (R := RM M) (by omega) (eqv_RM M M.rows.length) (fun t x y h v a b => h v a (by omega)) (fun e he => ?_)
    · omega
    · refine Classical.byContradiction fun z => n ⟨e, he, fun i j hi hj r => Classical.byContradiction fun q => z ⟨i, j, hi, hj, r, q⟩⟩
  obtain ⟨e, he, st⟩ := stop
  refine ⟨k.1, fun i j hi hj => (k.2 i j hi hj).trans ⟨fun r v a => ?_, fun r v a _ => r v a⟩⟩
  exact stop_all g st v i j hi hj (fun v a b => r v a (by omega)) a
/-- the distinct ones, in the order of their first places -/
def dds (l : List (List Int)) : List (List Int) := l.foldl (fun D w => if w ∈ D then D else D ++ [w]) []
theorem dds_snoc (l : List (List Int)) (w : List Int) : dds (l ++ [w]) = if w ∈ dds l then dds l else dds l ++ [w] := by
  unfold dds
  rw [List.foldl_append]
  rfl
theorem dds_few : ∀ (n : Nat) (l : List (List Int)), l.length = n → (dds l).length ≤ n
  | 0, l, h => by
    rw [List.length_eq_zero_iff.mp h]
    exact Nat.le_refl 0
  | n + 1, l, h => by
    rcases List.eq_nil_or_concat l with e | ⟨l', w, e⟩
    · rw [e] at h
      cases h
    · rw [List.concat_eq_append] at e
      subst e
      rw [List.length_append] at h
      have := dds_few n l' (by simpa using h)
      rw [dds_snoc]
      split
      · omega
      · rw [List.length_append]
        show (dds l').length + 1 ≤ n + 1
        omega
end Mz

set_option Elab.async false
set_option linter.all false
set_option maxRecDepth 100000
set_option maxHeartbeats 4000000
namespace K63
open PySem PySem.Spec PyProof.Rows L2 Mz
def PT (h : Int → Int) (H : Hp) (a : Addr) (p : Int) : Prop := H a = some (.tup [.int p, .int (h p)])
def spPairs : Sp := fun vs H Q _ => ∃ (m1 m2 : Addr) (M N : TM) (h : Int → Int), vs = [.ref m1, .ref m2] ∧ TMA H m1 M ∧ TMA H m2 N ∧ GoodT M ∧ GoodT N ∧ Hom M N h ∧ ∀ (H' : Hp) (q : Addr) (ts : List Addr) (ps : List Int), Same H H' → H' q = some (.lst (ts.map V.ref)) → Rel (PT h) H' ts ps → (∀ p ∈ ps, Reach M p) → ps.length ≤ 6 → Q (.ref q) H'
theorem shaped_rows (D : List (List Int)) : SeqAt.shaped (.list (D.map dRow)) = true := by
  have h1 := depth_rows D
  have h3 : PyData.depth (.list (D.map dRow)) ≤ 64 := by
    simp only [PyData.depth]
    omega
  have h4 : PyData.canLay0 (.list (D.map dRow)) = true := by
    simp only [PyData.canLay0]
    exact lay_rows D
  show (PyData.canLay0 _ && decide (PyData.depth _ ≤ 64)) = true
  rw [h4, decide_eq_true h3]
  rfl
theorem shaped_row (w : List Int) : SeqAt.shaped (dRow w) = true := by
  have h1 := depthI w
  have h3 : PyData.depth (dRow w) ≤ 64 := by
    unfold dRow
    simp only [PyData.depth]
    omega
  have h4 : PyData.canLay0 (dRow w) = true := by
    unfold dRow
    simp only [PyData.canLay0]
    exact lay_ints w
  show (PyData.canLay0 _ && decide (PyData.depth _ ≤ 64)) = true
  rw [h4, decide_eq_true h3]
  rfl
theorem eqv_row (a b : List Int) : PyData.eqv (dRow a) (dRow b) = decide (a = b) := by
  unfold dRow
  rw [PyData.eqv, eqv_ints]
theorem any_rows (D : List (List Int)) (w : List Int) : ((D.map dRow).any fun z => PyData.eqv z (dRow w)) = decide (w ∈ D) := by
  rw [List.any_map, Bool.eq_iff_iff, List.any_eq_true, decide_eq_true_iff]
  constructor
  · rintro ⟨x, hx, h⟩
    have : PyData.eqv (dRow x) (dRow w) = true := h
    rw [eqv_row] at this
    rw [← of_decide_eq_true this]
    exact hx
  · intro h
    exact ⟨w, h, by show PyData.eqv (dRow w) (dRow w) = true; rw [eqv_row]; exact decide_eq_true rfl⟩
theorem Rel.gen {α : Type} {R : Hp → Addr → α → Prop} {H H' : Hp} {ts : List Addr} {xs : List α} (h : Rel R H ts xs) (f : ∀ t x, R H t x → R H' t x) : Rel R H' ts xs := Rel.imp h f
theorem kids_pairs {h : Int → Int} {H : Hp} {ts : List Addr} {ps : List Int} (r : Rel (PT h) H ts ps) : ∀ xs : List V, (∀ y ∈ xs, y ∈ ts.map V.ref) → ∃ (us : List Addr) (js : List Int), xs = us.map V.ref ∧ js.length = us.length ∧ (∀ (i : Nat) (u : Addr) (j : Int), us[i]? = some u → js[i]? = some j → PT h H u j) ∧ ∀ j ∈ js, j ∈ ps
  | [], _ => ⟨[], [], rfl, rfl, (fun i u j e => by simp at e), fun j hj => by cases hj⟩
  | x :: xs, m => by
    obtain ⟨us, js, e, l, q, k⟩ := kids_pairs r xs fun y hy => m y (List.mem_cons_of_mem _ hy)
    obtain ⟨t, ht, rfl⟩ := List.mem_map.1 (m x List.mem_cons_self)
    obtain ⟨i, hi⟩ := List.mem_iff_getElem?.1 ht
    obtain ⟨p, hp, hP⟩ := r.to hi
    refine ⟨t :: us, p :: js, by rw [e]; rfl, by rw [List.length_cons, List.length_cons, l], fun i u j h1 h2 => ?_, fun j hj => ?_⟩
    · cases i with
      | zero =>
        cases h1
        cases h2
        exact hP
      | succ i => exact q i u j (by simpa using h1) (by simpa using h2)
    · rcases List.mem_cons.1 hj with z | z
      · rw [z]; exact List.mem_of_getElem? hp
      · exact k j z
theorem dp_pairs {K : PySem.W.Frag} {h : Int → Int} {H : Hp} {q : Addr} {ts : List Addr} {ps : List Int} (e : H q = some (.lst (ts.map V.ref))) (r : Rel (PT h) H ts ps) : Dp K H (.ref q) (.list ((ps.map fun p => [p, h p]).map dRow)) :=
  .lst (SqL.of e) (dp_rows _ _ (by rw [List.length_map]; exact r.1) fun i t x h1 h2 => by
    rw [List.getElem?_map] at h2
    obtain ⟨p, hp, rfl⟩ := Option.map_eq_some_iff.1 h2
    exact r.2 i t p h1 hp)
section
variable {P : Program} {w : World} {K : PySem.W.Frag} {mg : Str → Option Value} {base : Heap} {A : Ads} {c Pt : Addr}
theorem ok_pairs (T : Txt K mg A) : FnOk P w K mg base CX0 2 A.a_law_pairs A.d_law_pairs ["first", "second"] spPairs := by
  have G_law_kids := ok_lawkidsV (P := P) (w := w) (base := base) T
  have G_law_rule := ok_rule (P := P) (w := w) (base := base) T
  refine T.F_law_pairs.ok sc_law_pairs (fun vs H Q E h => ?_) (fun cdv Ar outer s H vs Q E hr h => ?_)
  · obtain ⟨_, _, _, _, _, rfl, _⟩ := h
    rfl
  · have hr_law_kids : Room 1 _ := hr
    have hr_law_rule : Room 1 _ := hr
    refine ⟨_, (pss_cons (ps_set (i := 2) sc_law_pairs.nd rfl (Or.inl rfl) (pe_lst pa_nil))
      (pss_cons (ps_for PassesOwn.never rfl (pi_range1 (by rfl) T.n_range (pa_cons (pe_op op_mul (pe_callB call_len_seq (by rfl) T.n_len PySem.boot_len (pa_cons (pe_ix (r := rIx K) ix_seq (pv 0) pe_int (fun _ _ => rfl)) pa_nil)) (pe_callB call_len_seq (by rfl) T.n_len PySem.boot_len (pa_cons (pe_ix (r := rIx K) ix_seq (pv 1) pe_int (fun _ _ => rfl)) pa_nil))) pa_nil)) (pg_name (i := 3) sc_law_pairs.nd rfl (Or.inl rfl))
        (pss_cons (ps_set (i := 4) sc_law_pairs.nd rfl (Or.inl rfl) (pe_callB call_len_seq (by rfl) T.n_len PySem.boot_len (pa_cons (pv 2) pa_nil)))
          (pss_cons (ps_for PassesOwn.never rfl (pi_range1 (by rfl) T.n_range (pa_cons (pe_callB call_len_seq (by rfl) T.n_len PySem.boot_len (pa_cons (pe_ix (r := rIx K) ix_seq (pv 0) pe_int (fun _ _ => rfl)) pa_nil)) pa_nil)) (pg_name (i := 5) sc_law_pairs.nd rfl (Or.inl rfl))
            (pss_one (ps_for PassesOwn.never rfl (pi_list (pe_call G_law_kids hr_law_kids (by rfl) T.g_law_kids T.F_law_kids.kp T.b_law_kids .nil pass0 (pa_cons (pe_ix (r := rIx K) ix_seq (pe_ix (r := rIx K) ix_seq (pv 0) pe_int (fun _ _ => rfl)) (pv 5) (fun _ _ => rfl)) (pa_cons (pe_callTy call_list_of (by rfl) T.n_list (by decide +kernel) (pa_cons (pv 2) pa_nil)) pa_nil)))) (pg_name (i := 6) sc_law_pairs.nd rfl (Or.inl rfl))
                (pss_cons (ps_set (i := 7) sc_law_pairs.nd rfl (Or.inl rfl) (pe_call G_law_rule hr_law_rule (by rfl) T.g_law_rule T.F_law_rule.kp T.b_law_rule .nil pass0 (pa_cons (pv 0) (pa_cons (pv 5) (pa_cons (pe_lc (own := [("kid", 9)]) (g := (gName 9)) (tt := tYes) rfl sc_law_pairs.nd (pi_tup (pv 6)) (blkOk_by (N := ["first", "second", "found", "turn", "before", "symbol", "kids", "left", "pair", "kid"]) (sc := defScope s_law_pairs) (by decide +kernel)) (fun _ _ _ _ _ => (pg_name (i := 9) sc_law_pairs.nd rfl (Or.inl rfl))) (fun _ _ _ _ _ => pts_nil) (fun _ _ _ _ _ => (pe_ix (r := rIx K) ix_seq (pv 9) pe_int (fun _ _ => rfl)))) pa_nil)))))
                  (pss_cons (ps_set (i := 8) sc_law_pairs.nd rfl (Or.inl rfl) (pe_tup (pa_cons (pv 7) (pa_cons (pe_call G_law_rule hr_law_rule (by rfl) T.g_law_rule T.F_law_rule.kp T.b_law_rule .nil pass0 (pa_cons (pv 1) (pa_cons (pv 5) (pa_cons (pe_lc (own := [("kid", 9)]) (g := (gName 9)) (tt := tYes) rfl sc_law_pairs.nd (pi_tup (pv 6)) (blkOk_by (N := ["first", "second", "found", "turn", "before", "symbol", "kids", "left", "pair", "kid"]) (sc := defScope s_law_pairs) (by decide +kernel)) (fun _ _ _ _ _ => (pg_name (i := 9) sc_law_pairs.nd rfl (Or.inl rfl))) (fun _ _ _ _ _ => pts_nil) (fun _ _ _ _ _ => (pe_ix (r := rIx K) ix_seq (pv 9) pe_int (fun _ _ => rfl)))) pa_nil)))) pa_nil))))
                  (pss_one (ps_if (pt_cmpR (op_notInD (hu65 hr)) (pv 8) (pv 2) rfl) (pss_one (ps_expr (pe_bm PySem.F.plainAttrs_list PySem.F.slot_list_append PySem.F.type_list_append mt_append (pv 2) (pa_cons (pv 8) pa_nil)))) pss_nil)))))))
          (pss_one (ps_if (pt_cmpR op_eq (pe_callB call_len_seq (by rfl) T.n_len PySem.boot_len (pa_cons (pv 2) pa_nil)) (pv 4) (nomark _)) (pss_one ps_break) pss_nil)))))
      (pss_one (ps_ret (pv 2))))), ?_⟩
    obtain ⟨m1, m2, M, N, h, rfl, hMA, hNA, g, g', hom, fin⟩ := h
    obtain ⟨r, ru, ou, qs, hM⟩ := id hMA
    obtain ⟨r', ru', ou', qs', hN⟩ := id hNA
    have n6 := g.n6
    have n1 := g.n1
    have k6 := g'.n6
    have k1 := g'.n1
    have r5 := (ranks_iff.mp g.rk).2.1
    have sl : ∀ {xs : List Int}, (xs.map V.int).length = xs.length := fun {xs} => List.length_map ..
    have inr : ∀ {xs : List Int}, xs.Nodup → (∀ p ∈ xs, Reach M p) → xs.length ≤ M.outs.length := fun nd h => in_range_len nd fun k hk => (h k hk).rg g
    refine ⟨Nat.zero_le _, fun q hq => ?_⟩
    have s0 := same_upd (o := .lst []) (Same.refl H) hq
    have e0 : (upd H q (.lst [])) q = some (.lst (([] : List Addr).map V.ref)) := upd_same
    generalize upd H q (.lst []) = H0 at *
    refine ⟨_, rfl, .inr (.inl ⟨m1, _, 3, _, rfl, rfl, SqT.of (s0 _ _ hM.top), rfl, ?_⟩)⟩
    refine ⟨ou, _, rfl, .inr (SqT.of (s0 _ _ hM.ou)), ?_⟩
    refine ⟨_, rfl, .inr (.inl ⟨m2, _, 3, _, rfl, rfl, SqT.of (s0 _ _ hN.top), rfl, ?_⟩)⟩
    refine ⟨ou', _, rfl, .inr (SqT.of (s0 _ _ hN.ou)), ?_⟩
    rw [sl, sl]
    have nm : M.outs.length * N.outs.length ≤ 36 := Nat.mul_le_mul n6 k6
    refine ⟨_, _, rfl, rfl, .inr ⟨by omega, by omega⟩, ?_⟩
    refine ⟨_, rfl, by omega, by omega, for_range (fun t σ H' => ∃ (v3 v4 v5 v6 v7 v8 : Option V) (ts : List Addr) (ps : List Int), σ = [some (.ref m1), some (.ref m2), some (.ref q), v3, v4, v5, v6, v7, v8, none] ∧ Same H H' ∧ H' q = some (.lst (ts.map V.ref)) ∧ Rel (PT h) H' ts ps ∧ ps.Nodup ∧ (∀ p ∈ ps, Reach M p)) ⟨none, none, none, none, none, none, [], [], rfl, s0, e0, Rel.nil, .nil, fun p hp => by cases hp⟩ ?_ ?_⟩
    · rintro t σ H1 ht ⟨v3, v4, v5, v6, v7, v8, ts, ps, rfl, s1, e1, rel1, nd1, rch1⟩
      refine ⟨_, rfl, q, _, rfl, .inl (SqL.of e1), ?_⟩
      refine ⟨_, rfl, .inr (.inl ⟨m1, _, 0, _, rfl, rfl, SqT.of (s1 _ _ hM.top), rfl, ?_⟩)⟩
      refine ⟨r, _, rfl, .inr (rd_t (rd_same s1 hM.rs)), ?_⟩
      rw [sl]
      refine ⟨M.rs.length, rfl, by omega, by omega, for_range (fun i σ H' => ∃ (v5 v6 v7 v8 : Option V) (ts' : List Addr) (ps' : List Int), σ = [some (.ref m1), some (.ref m2), some (.ref q), some (.int (0 + (t : Int))), some (.int ((ts.map V.ref).length : Nat)), v5, v6, v7, v8, none] ∧ Same H H' ∧ H' q = some (.lst (ts'.map V.ref)) ∧ Rel (PT h) H' ts' ps' ∧ ps'.Nodup ∧ (∀ p ∈ ps', Reach M p)) ⟨_, _, _, _, ts, ps, rfl, s1, e1, rel1, nd1, rch1⟩ ?_ ?_⟩
      · rintro i σ H2 hi ⟨w5, w6, w7, w8, fs, gs, rfl, s2, e2, rel2, nd2, rch2⟩
        have il : i < M.rs.length := hi
        obtain ⟨rk0, rk3⟩ := rank_rg g il
        have eR := rank_at il
        have iz : ((0 : Int) + (i : Int)).toNat = i := by omega
        refine ⟨_, rfl, .inr (.inl ⟨m1, _, 0, _, rfl, rfl, SqT.of (s2 _ _ hM.top), rfl, ?_⟩)⟩
        refine ⟨_, rfl, .inr (.inl ⟨r, _, _, _, rfl, rfl, rd_t (rd_same s2 hM.rs), atI_get? (by omega) (by rw [iz]; exact eR), ?_⟩)⟩
        refine ⟨_, rfl, q, _, rfl, .inl (SqL.of e2), fun l hl => ?_⟩
        have s3 := same_upd (o := .lst (fs.map V.ref)) (Same.refl H2) hl
        have e3 : (upd H2 l (.lst (fs.map V.ref))) l = some (.lst (fs.map V.ref)) := upd_same
        generalize upd H2 l (.lst (fs.map V.ref)) = H3 at *
        have lf := inr nd2 rch2
        have lfs : fs.length = gs.length := rel2.1
        refine ⟨l, fs.map V.ref, (M.rank (i : Int)).toNat, by rw [Int.toNat_of_nonneg rk0]; rfl, SqL.of e3, by rw [List.length_map]; omega, by omega, fun H4 ql us s4 nq eq rel => ?_⟩
        have s24 := s3.trans s4
        have e4 := s24 _ _ e2
        have qlq : ql ≠ q := fun z => by rw [z, s3 _ _ e2] at nq; cases nq
        have rel4 : Rel (PT h) H4 fs gs := Rel.imp rel2 fun _ _ z => s24 _ _ z
        refine ⟨ql, rfl, ⟨_, SqL.of eq⟩, ?_⟩
        have fq : H q = none := hq
        refine for_it (walk_list (xs := us.map V.ref)) (fun j σ H' => ∃ (w6 w7 w8 : Option V) (fs' : List Addr) (gs' : List Int), σ = [some (.ref m1), some (.ref m2), some (.ref q), some (.int (0 + (t : Int))), some (.int ((ts.map V.ref).length : Nat)), some (.int (0 + (i : Int))), w6, w7, w8, none] ∧ Same H H' ∧ Kq q H4 H' ∧ H' q = some (.lst (fs'.map V.ref)) ∧ Rel (PT h) H' fs' gs' ∧ gs'.Nodup ∧ (∀ p ∈ gs', Reach M p))
          ⟨w6, w7, w8, fs, gs, rfl, s2.trans s24, Kq.refl, e4, rel4, nd2, rch2⟩ (fun j σ H' _ ⟨_, _, _, _, _, _, _, k, _⟩ => SqL.of (k _ _ qlq eq)) ?_ ?_
        · rintro j y σ H6x H6 hj ⟨w6, w7, w8, fs', gs', rfl, s6, k6', e6, rel6, nd6, rch6⟩ ⟨rfl, hy⟩
          obtain ⟨tj, htj, rfl⟩ := ofV hy
          obtain ⟨xs, exs, hks⟩ := rel.to htj
          have hks : H4 tj = some (.tup xs) := hks
          have mem := kidsV_mem _ _ _ (List.mem_of_getElem? exs)
          obtain ⟨zs, js, rfl, lz, pt, jm⟩ := kids_pairs rel4 xs mem.2
          have hks6 := k6' _ _ (fun z => by rw [z, e4] at hks; cases hks) hks
          have pt6 : ∀ (a : Nat) (u : Addr) (j : Int), zs[a]? = some u → js[a]? = some j → PT h H6 u j := fun a u j h1 h2 => by
            have := pt a u j h1 h2
            exact k6' _ _ (fun z => by
              have this : H4 u = some (.tup [.int j, .int (h j)]) := this
              rw [z, e4] at this
              cases this) this
          have ml : js.length = (M.rank (i : Int)).toNat := by
            rw [lz, ← mem.1, List.length_map]
          have kr : KR M (Reach M) i js := ⟨il, ml, fun k hk => rch2 k (jm k hk)⟩
          have krg : KR M (Rg M) i js := ⟨il, ml, fun k hk => (kr.dom k hk).rg g⟩
          have rt : Reach M (M.to i js) := .mk i js il ml kr.dom
          have lk : js.length ≤ 2 := by omega
          have iy : ((0 : Int) + (i : Int)) = (i : Int) := Int.zero_add _
          have rl0 : ∀ {H' : Hp}, Same H6 H' → ∀ (a : Nat) (u : Addr) (j : Int), zs[a]? = some u → js[a]? = some j → H' u = some (.tup [.int j, .int (h j)]) := fun s a u j h1 h2 => s _ _ (pt6 a u j h1 h2)
          refine ⟨_, rfl, _, rfl, _, rfl, tj, rfl, ⟨_, SqT.of hks6⟩, fun D hD => ?_⟩
          refine lc_it walk_tup (fun a H' => H' = upd H6 D (.lst ((js.take a).map V.int))) rfl (fun a H' _ e => by rw [e]; exact SqT.of (same_upd (Same.refl _) hD _ _ hks6)) ?_ ?_
          · rintro a y H7x H7 ha rfl ⟨rfl, hy⟩
            obtain ⟨u, hu, rfl⟩ := ofV hy
            have la := (List.getElem?_eq_some_iff.1 hu).1
            have hj := List.getElem?_eq_getElem (l := js) (i := a) (by omega)
            have e7 := rl0 (same_upd (o := .lst ((js.take a).map V.int)) (Same.refl _) hD) a u _ hu hj
            refine ⟨rfl, ?_⟩
            refine ⟨_, rfl, .inr (.inl ⟨u, _, 0, _, rfl, rfl, SqT.of e7, rfl, ?_⟩)⟩
            refine ⟨_, upd_same, Nat.lt_of_le_of_lt (by rw [List.length_map, List.length_take]; omega : _ ≤ 6) (by decide), ?_⟩
            rw [upd_upd, take_more hj, List.map_append]
            rfl
          rintro H7 rfl
          rw [show js.take (zs.map V.ref).length = js from List.take_of_length_le (by rw [List.length_map]; omega)]
          have s7 := same_upd (o := .lst (js.map V.int)) (Same.refl H6) hD
          have eD : (upd H6 D (.lst (js.map V.int))) D = some (.lst (js.map V.int)) := upd_same
          generalize upd H6 D (.lst (js.map V.int)) = H7 at *
          refine ⟨m1, D, M, _, js, rfl, hMA.same (s6.trans s7), g, by omega, by omega, SqL.of eD, krg.dom, by rw [iy]; exact ml, ?_⟩
          rw [iy]
          refine ⟨_, rfl, _, rfl, _, rfl, _, rfl, tj, rfl, ⟨_, SqT.of (s7 _ _ hks6)⟩, fun D2 hD2 => ?_⟩
          refine lc_it walk_tup (fun a H' => H' = upd H7 D2 (.lst (((js.map h).take a).map V.int))) rfl (fun a H' _ e => by rw [e]; exact SqT.of (same_upd (Same.refl _) hD2 _ _ (s7 _ _ hks6))) ?_ ?_
          · rintro a y H8x H8 ha rfl ⟨rfl, hy⟩
            obtain ⟨u, hu, rfl⟩ := ofV hy
            have la := (List.getElem?_eq_some_iff.1 hu).1
            have hj := List.getElem?_eq_getElem (l := js) (i := a) (by omega)
            have e8 := rl0 (same_upd (o := .lst (((js.map h).take a).map V.int)) s7 hD2) a u _ hu hj
            have hj2 : (js.map h)[a]? = some (h js[a]) := by rw [List.getElem?_map, hj]; rfl
            refine ⟨rfl, ?_⟩
            refine ⟨_, rfl, .inr (.inl ⟨u, _, 1, _, rfl, rfl, SqT.of e8, rfl, ?_⟩)⟩
            refine ⟨_, upd_same, Nat.lt_of_le_of_lt (by rw [List.length_map, List.length_take, List.length_map]; omega : _ ≤ 6) (by decide), ?_⟩
            rw [upd_upd, take_more hj2, List.map_append]
            rfl
          rintro H8 rfl
          have ljh : (js.map h).length = js.length := List.length_map ..
          rw [show (js.map h).take (zs.map V.ref).length = js.map h from List.take_of_length_le (by rw [List.length_map]; omega)]
          have s8 := same_upd (o := .lst ((js.map h).map V.int)) s7 hD2
          have eD2 : (upd H7 D2 (.lst ((js.map h).map V.int))) D2 = some (.lst ((js.map h).map V.int)) := upd_same
          generalize upd H7 D2 (.lst ((js.map h).map V.int)) = H8 at *
          refine ⟨m2, D2, N, _, js.map h, rfl, hNA.same (s6.trans s8), g', by omega, by rw [hom.rs]; omega, SqL.of eD2, fun k hk => ?_, by rw [ljh, hom.rank]; exact ml, ?_⟩
          · obtain ⟨z, hz, rfl⟩ := List.mem_map.1 hk
            exact hom.dom z (kr.dom z hz)
          rw [hom.to i js kr]
          refine ⟨(by show 2 ≤ sizeLine; decide), fun u hu => ?_⟩
          have s9 := same_upd (o := .tup [.int (M.to i js), .int (h (M.to i js))]) s8 hu
          have eu : (upd H8 u (.tup [.int (M.to i js), .int (h (M.to i js))])) u = some (.tup [.int (M.to i js), .int (h (M.to i js))]) := upd_same
          generalize upd H8 u (.tup [.int (M.to i js), .int (h (M.to i js))]) = H9 at *
          have e9 := s9 _ _ e6
          have rel9 : Rel (PT h) H9 fs' gs' := Rel.imp rel6 fun _ _ z => s9 _ _ z
          have uq : u ≠ q := fun z => by rw [z, e9] at eu; cases eu
          have any : (((gs'.map fun p => [p, h p]).map dRow).any fun z => PyData.eqv z (dRow [M.to i js, h (M.to i js)])) = decide (M.to i js ∈ gs') := by
            rw [any_rows, decide_eq_decide]
            constructor
            · intro z
              obtain ⟨p, hp, e⟩ := List.mem_map.1 z
              injection e with e _
              rw [← e]
              exact hp
            · intro z
              exact List.mem_map.2 ⟨_, z, rfl⟩
          refine ⟨_, rfl, _, rfl, dRow [M.to i js, h (M.to i js)], _, .tup (SqT.of eu) (dp_ints [M.to i js, h (M.to i js)]), dp_pairs e9 rel9, shaped_row _, shaped_rows _, ?_⟩
          rw [any]
          refine ⟨_, rfl, ?_⟩
          by_cases c : M.to i js ∈ gs'
          · refine ifDF (by rw [decide_eq_true c]; rfl) ?_
            exact ⟨_, _, _, fs', gs', rfl, s6.trans s9, k6'.trans (Kq.of s9), e9, rel9, nd6, rch6⟩
          · refine ifDT (by rw [decide_eq_false c]; rfl) ?_
            have l6 := inr nd6 rch6
            have lff : fs'.length = gs'.length := rel6.1
            refine ⟨_, rfl, .inl ⟨rfl, _, SqL.of e9⟩, _, rfl, q, _, _, rfl, rfl, e9, Nat.lt_of_le_of_lt (by rw [List.length_map]; omega : _ ≤ 6) (by decide), ?_⟩
            have kk : Kq q H9 (upd H9 q (.lst (fs'.map V.ref ++ [.ref u]))) := Kq.refl.trans Kq.set
            have pne : ∀ {a : Addr} {p : Int}, PT h H9 a p → PT h (upd H9 q (.lst (fs'.map V.ref ++ [.ref u]))) a p := fun {a p} z => (upd_ne fun y => by
              have z : H9 a = some (.tup [.int p, .int (h p)]) := z
              rw [y, e9] at z
              cases z).trans z
            refine ⟨_, _, _, fs' ++ [u], gs' ++ [M.to i js], rfl, same_set (s6.trans s9) fq, (k6'.trans (Kq.of s9)).trans kk, by rw [upd_same, List.map_append]; rfl, Rel.push (Rel.imp rel9 fun _ _ z => pne z) (pne eu), ?_, fun p hp => ?_⟩
            · have := addK_nd nd6 (M.to i js)
              rwa [addK_new c] at this
            · rcases List.mem_append.1 hp with z | z
              · exact rch6 p z
              · rw [List.mem_singleton.1 z]; exact rt
        · rintro σ H6 ⟨w6, w7, w8, fs', gs', rfl, s6, k6', e6, rel6, nd6, rch6⟩
          exact ⟨_, _, _, _, fs', gs', rfl, s6, e6, rel6, nd6, rch6⟩
      · rintro σ H2 ⟨w5, w6, w7, w8, fs, gs, rfl, s2, e2, rel2, nd2, rch2⟩
        refine ⟨_, rfl, q, _, rfl, .inl (SqL.of e2), _, rfl, rfl, _, rfl, ?_⟩
        have both : ∀ {b : Bool} {p q : Prop}, p → q → if b = true then p else q := fun {b p q} x y => by split <;> assumption
        exact both ⟨_, rfl, fin H2 q fs gs s2 e2 rel2 rch2 (Nat.le_trans (inr nd2 rch2) n6)⟩ ⟨_, _, _, _, _, _, fs, gs, rfl, s2, e2, rel2, nd2, rch2⟩
    · rintro σ H1 ⟨v3, v4, v5, v6, v7, v8, ts, ps, rfl, s1, e1, rel1, nd1, rch1⟩
      exact ⟨_, rfl, fin H1 q ts ps s1 e1 rel1 rch1 (Nat.le_trans (inr nd1 rch1) n6)⟩
end
end K63

set_option Elab.async false
set_option linter.all false
set_option maxRecDepth 100000
set_option maxHeartbeats 4000000
namespace K63
open PySem PySem.Spec PyProof.Rows L2 Mz
def spDiffer : Sp := fun vs H Q _ => ∃ (m1 m2 : Addr) (M N : TM) (h : Int → Int), vs = [.ref m1, .ref m2] ∧ TMA H m1 M ∧ TMA H m2 N ∧ GoodT M ∧ GoodT N ∧ Hom M N h ∧ ∀ H' : Hp, Same H H' → Q (.bl false) H'
def spDoubled (K : PySem.W.Frag) : Sp := fun vs H Q _ => ∃ (m p : Addr) (M : TM) (ms : List Int), vs = [.ref m, .ref p] ∧ TMA H m M ∧ GoodT M ∧ SqL K H p (ms.map V.int) ∧ Pos ms ∧ ∀ (H' : Hp) (m' : Addr) (M' : TM), GoodT M' → M'.rs = M.rs → M'.os = M.os → Same H H' → TMA H' m' M' → Q (.ref m') H'
section
variable {P : Program} {w : World} {K : PySem.W.Frag} {mg : Str → Option Value} {base : Heap} {A : Ads} {c Pt : Addr}
theorem ok_differ (T : Txt K mg A) : FnOk P w K mg base CX0 3 A.a_law_differ A.d_law_differ ["first", "second"] spDiffer := by
  have G_law_pairs := ok_pairs (P := P) (w := w) (base := base) T
  refine T.F_law_differ.ok sc_law_differ (fun vs H Q E h => ?_) (fun cdv Ar outer s H vs Q E hr h => ?_)
  · obtain ⟨_, _, _, _, _, rfl, _⟩ := h
    rfl
  · have hr_law_pairs : Room 2 _ := hr
    refine ⟨_, (pss_one (ps_ret (pe_callB (cr_any rfl) (by rfl) T.n_any (by decide +kernel) (pa_cons (pe_lc (own := [("pair", 2)]) (g := (gName 2)) (tt := tYes) rfl sc_law_differ.nd (pi_list (pe_call G_law_pairs hr_law_pairs (by rfl) T.g_law_pairs T.F_law_pairs.kp T.b_law_pairs .nil pass0 (pa_cons (pv 0) (pa_cons (pv 1) pa_nil)))) (blkOk_by (N := ["first", "second", "pair"]) (sc := defScope s_law_differ) (by decide +kernel)) (fun _ _ _ _ _ => (pg_name (i := 2) sc_law_differ.nd rfl (Or.inl rfl))) (fun _ _ _ _ _ => pts_nil) (fun _ _ _ _ _ => (pe_cmpR op_ne (pe_ix (r := rIx K) ix_seq (pe_ix (r := rIx K) ix_seq (pv 0) pe_int (fun _ _ => rfl)) (pe_ix (r := rIx K) ix_seq (pv 2) pe_int (fun _ _ => rfl)) (fun _ _ => rfl)) (pe_ix (r := rIx K) ix_seq (pe_ix (r := rIx K) ix_seq (pv 1) pe_int (fun _ _ => rfl)) (pe_ix (r := rIx K) ix_seq (pv 2) pe_int (fun _ _ => rfl)) (fun _ _ => rfl)) (nomark _)))) pa_nil)))), ?_⟩
    obtain ⟨m1, m2, M, N, h, rfl, hMA, hNA, g, g', hom, fin⟩ := h
    obtain ⟨r, ru, ou, qs, hM⟩ := id hMA
    obtain ⟨r', ru', ou', qs', hN⟩ := id hNA
    refine ⟨_, rfl, _, rfl, m1, m2, M, N, h, rfl, hMA, hNA, g, g', hom, fun H1 q ts ps s1 e1 rel1 rch1 l6 => ?_⟩
    refine ⟨q, rfl, ⟨_, SqL.of e1⟩, fun D hD => ?_⟩
    have lt : ts.length = ps.length := rel1.1
    refine lc_it walk_list (fun i H' => H' = upd H1 D (.lst ((List.replicate i false).map V.bl))) rfl (fun i H' _ e => by rw [e]; exact SqL.of (same_upd (Same.refl _) hD _ _ e1)) ?_ ?_
    · rintro i y H2x H2 hi rfl ⟨rfl, hy⟩
      obtain ⟨t, ht, rfl⟩ := ofV hy
      obtain ⟨p, hp, hP⟩ := rel1.to ht
      have s2 := same_upd (o := .lst ((List.replicate i false).map V.bl)) (Same.refl H1) hD
      have hP2 : (upd H1 D (.lst ((List.replicate i false).map V.bl))) t = some (.tup [.int p, .int (h p)]) := s2 _ _ hP
      have s12 := s1.trans s2
      have rp := rch1 p (List.mem_of_getElem? hp)
      obtain ⟨p0, p1⟩ := rp.rg g
      obtain ⟨q0, q1⟩ := hom.dom p rp
      have nM : M.n = (M.outs.length : Int) := rfl
      have nN : N.n = (N.outs.length : Int) := rfl
      have oa : ∀ {L : TM} {x : Int}, Rg L x → L.outs[x.toNat]? = some (outO L x) := fun {L x} hx => by
        obtain ⟨a, _⟩ := hx.of
        unfold outO
        rw [List.getD_eq_getElem?_getD, List.getElem?_eq_getElem a]
        rfl
      refine ⟨rfl, ?_⟩
      refine ⟨_, rfl, .inr (.inl ⟨m1, _, 3, _, rfl, rfl, SqT.of (s12 _ _ hM.top), rfl, ?_⟩)⟩
      refine ⟨_, rfl, .inr (.inl ⟨t, _, 0, _, rfl, rfl, SqT.of hP2, rfl, ?_⟩)⟩
      refine .inr (.inl ⟨ou, _, p, _, rfl, rfl, SqT.of (s12 _ _ hM.ou), atI_get? p0 (oa ⟨p0, p1⟩), ?_⟩)
      refine ⟨_, rfl, .inr (.inl ⟨m2, _, 3, _, rfl, rfl, SqT.of (s12 _ _ hN.top), rfl, ?_⟩)⟩
      refine ⟨_, rfl, .inr (.inl ⟨t, _, 1, _, rfl, rfl, SqT.of hP2, rfl, ?_⟩)⟩
      refine .inr (.inl ⟨ou', _, h p, _, rfl, rfl, SqT.of (s12 _ _ hN.ou), atI_get? q0 (oa ⟨q0, q1⟩), ?_⟩)
      rw [hom.out p rp]
      refine ⟨rfl, _, upd_same, Nat.lt_of_le_of_lt (by rw [List.length_map, List.length_replicate]; rw [List.length_map] at hi; omega : _ ≤ 6) (by decide), ?_⟩
      rw [upd_upd, List.replicate_succ', List.map_append]
      congr 3
      rw [decide_eq_true rfl]
      rfl
    · rintro H2 rfl
      refine ⟨_, _, rfl, SqL.of upd_same, ?_⟩
      have e : (List.replicate (ts.map V.ref).length false).any id = false := by
        generalize (ts.map V.ref).length = n
        induction n with
        | zero => rfl
        | succ n ih => rw [List.replicate_succ, List.any_cons, ih]; rfl
      rw [e]
      exact fin _ (s1.trans (same_upd (Same.refl _) hD))
theorem ok_doubled (T : Txt K mg A) : FnOk P w K mg base CX0 2 A.a_law_doubled A.d_law_doubled ["machine", "numbers"] (spDoubled K) := by
  have G_law_kids := ok_lawkids (P := P) (w := w) (base := base) T
  have G_law_rule := ok_rule (P := P) (w := w) (base := base) T
  refine T.F_law_doubled.ok sc_law_doubled (fun vs H Q E h => ?_) (fun cdv Ar outer s H vs Q E hr h => ?_)
  · obtain ⟨_, _, _, _, rfl, _⟩ := h
    rfl
  · have hr_law_kids : Room 1 _ := hr
    have hr_law_rule : Room 1 _ := hr
    refine ⟨_, (pss_cons (ps_set (i := 2) sc_law_doubled.nd rfl (Or.inr rfl) (pe_callB call_len_seq (by rfl) T.n_len PySem.boot_len (pa_cons (pe_ix (r := rIx K) ix_seq (pv 0) pe_int (fun _ _ => rfl)) pa_nil)))
      (pss_cons (ps_if (pt_cmpR op_gt (pv 2) pe_int (nomark _)) (pss_one (ps_ret (pv 0))) pss_nil)
      (pss_cons (ps_set (i := 3) sc_law_doubled.nd rfl (Or.inl rfl) (pe_lst pa_nil))
      (pss_cons (ps_for PassesOwn.never rfl (pi_range1 (by rfl) T.n_range (pa_cons (pe_callB call_len_seq (by rfl) T.n_len PySem.boot_len (pa_cons (pe_ix (r := rIx K) ix_seq (pv 0) pe_int (fun _ _ => rfl)) pa_nil)) pa_nil)) (pg_name (i := 4) sc_law_doubled.nd rfl (Or.inl rfl))
        (pss_cons (ps_set (i := 5) sc_law_doubled.nd rfl (Or.inl rfl) (pe_lst pa_nil))
          (pss_cons (ps_for PassesOwn.never rfl (pi_list (pe_call G_law_kids hr_law_kids (by rfl) T.g_law_kids T.F_law_kids.kp T.b_law_kids .nil pass0 (pa_cons (pe_ix (r := rIx K) ix_seq (pe_ix (r := rIx K) ix_seq (pv 0) pe_int (fun _ _ => rfl)) (pv 4) (fun _ _ => rfl)) (pa_cons (pe_lc (own := [("state", 8)]) (g := (gName 8)) (tt := tYes) rfl sc_law_doubled.nd (pi_range1 (by rfl) T.n_range (pa_cons (pe_op op_mul pe_int (pv 2)) pa_nil)) (blkOk_by (N := ["machine", "numbers", "count", "rules", "symbol", "row", "kids", "target", "state", "kid"]) (sc := defScope s_law_doubled) (by decide +kernel)) (fun _ _ _ _ _ => (pg_name (i := 8) sc_law_doubled.nd rfl (Or.inl rfl))) (fun _ _ _ _ _ => pts_nil) (fun _ _ _ _ _ => (pv 8))) pa_nil)))) (pg_name (i := 6) sc_law_doubled.nd rfl (Or.inl rfl))
            (pss_cons (ps_set (i := 7) sc_law_doubled.nd rfl (Or.inl rfl) (pe_call G_law_rule hr_law_rule (by rfl) T.g_law_rule T.F_law_rule.kp T.b_law_rule .nil pass0 (pa_cons (pv 0) (pa_cons (pv 4) (pa_cons (pe_lc (own := [("kid", 9)]) (g := (gName 9)) (tt := tYes) rfl sc_law_doubled.nd (pi_tup (pv 6)) (blkOk_by (N := ["machine", "numbers", "count", "rules", "symbol", "row", "kids", "target", "state", "kid"]) (sc := defScope s_law_doubled) (by decide +kernel)) (fun _ _ _ _ _ => (pg_name (i := 9) sc_law_doubled.nd rfl (Or.inl rfl))) (fun _ _ _ _ _ => pts_nil) (fun _ _ _ _ _ => (pe_op op_mod (pe_callTy (T := "int") call_int1 (by rfl) T.n_int (by decide +kernel) (pa_cons (pv 9) pa_nil)) (pv 2)))) pa_nil)))))
              (pss_one (ps_expr (pe_bm PySem.F.plainAttrs_list PySem.F.slot_list_append PySem.F.type_list_append mt_append (pv 5) (pa_cons (pe_op op_add (pv 7) (pe_op op_mul (pv 2) (pe_op op_mod (pe_op op_fdiv (pe_ix (r := rIx K) ix_seq (pv 1) (pe_op op_mod (pe_callB call_len_seq (by rfl) T.n_len PySem.boot_len (pa_cons (pv 5) pa_nil)) (pe_callB call_len_seq (by rfl) T.n_len PySem.boot_len (pa_cons (pv 1) pa_nil))) (fun _ _ => rfl)) (pe_op op_add pe_int (pv 4))) pe_int))) pa_nil))))))
          (pss_one (ps_expr (pe_bm PySem.F.plainAttrs_list PySem.F.slot_list_append PySem.F.type_list_append mt_append (pv 3) (pa_cons (pe_callTy call_tuple_of (by rfl) T.n_tuple (by decide +kernel) (pa_cons (pv 5) pa_nil)) pa_nil)))))))
      (pss_one (ps_ret (pe_tup (pa_cons (pe_ix (r := rIx K) ix_seq (pv 0) pe_int (fun _ _ => rfl)) (pa_cons (pe_ix (r := rIx K) ix_seq (pv 0) pe_int (fun _ _ => rfl)) (pa_cons (pe_callTy call_tuple_of (by rfl) T.n_tuple (by decide +kernel) (pa_cons (pv 3) pa_nil)) (pa_cons (pe_op (r := rCatA K) op_catA (pe_ix (r := rIx K) ix_seq (pv 0) pe_int (fun _ _ => rfl)) (pe_ix (r := rIx K) ix_seq (pv 0) pe_int (fun _ _ => rfl))) pa_nil))))))))))), ?_⟩
    obtain ⟨m, p, M, ms, rfl, hMA, g, hp, hpos, fin⟩ := h
    obtain ⟨r, ru, ou, qs, hM⟩ := id hMA
    have n6 := g.n6
    have n1 := g.n1
    have r5 := (ranks_iff.mp g.rk).2.1
    have sl : ∀ {xs : List Int}, (xs.map V.int).length = xs.length := fun {xs} => List.length_map ..
    refine ⟨_, rfl, .inr (.inl ⟨m, _, 3, _, rfl, rfl, SqT.of hM.top, rfl, ?_⟩)⟩
    refine ⟨ou, _, rfl, .inr (SqT.of hM.ou), ?_⟩
    rw [sl]
    refine ⟨_, rfl, _, _, rfl, rfl, _, rfl, ?_⟩
    by_cases c3 : (3 : Int) < (M.outs.length : Int)
    · refine ifDT (decide_eq_true c3) ?_
      exact ⟨_, rfl, fin H m M g rfl rfl (Same.refl H) hMA⟩
    refine ifDF (decide_eq_false c3) ?_
    have n3 : M.outs.length ≤ 3 := by omega
    refine ⟨Nat.zero_le _, fun l hl => ?_⟩
    have s0 := same_upd (o := .lst []) (Same.refl H) hl
    have e0 : (upd H l (.lst [])) l = some (.lst (([] : List Addr).map V.ref)) := upd_same
    generalize upd H l (.lst []) = H0 at *
    refine ⟨_, rfl, .inr (.inl ⟨m, _, 0, _, rfl, rfl, SqT.of (s0 _ _ hM.top), rfl, ?_⟩)⟩
    refine ⟨r, _, rfl, .inr (rd_t (rd_same s0 hM.rs)), ?_⟩
    rw [sl]
    have nE : ((2 * (M.outs.length : Int)).toNat) = 2 * M.outs.length := by omega
    refine ⟨M.rs.length, rfl, by omega, by omega, for_range (fun j σ H' => ∃ (v4 v5 v6 v7 : Option V) (ts : List Addr) (rows : List (List Int)), σ = [some (.ref m), some (.ref p), some (.int (M.outs.length : Int)), some (.ref l), v4, v5, v6, v7, none, none] ∧ Same H H' ∧ H' l = some (.lst (ts.map V.ref)) ∧
        ts.length = j ∧ rows.length = j ∧ (∀ (i : Nat) (q : Addr) (w : List Int), ts[i]? = some q → rows[i]? = some w → H' q = some (.tup (w.map V.int))) ∧ (∀ (i : Nat) (x : Int) (w : List Int), M.rs[i]? = some x → rows[i]? = some w → w.length = (2 * M.outs.length) ^ x.toNat) ∧ ∀ w ∈ rows, Lt ((2 * M.outs.length : Nat) : Int) w)
      ⟨none, none, none, none, [], [], rfl, s0, e0, rfl, rfl, (fun i q w e => by simp at e), (fun i x w _ e => by simp at e), fun w hw => absurd hw (by simp)⟩ ?_ ?_⟩
    · rintro j σ H1 hj ⟨v4, v5, v6, v7, ts, rows, rfl, s1, e1, lts, lrows, row, sz, lt⟩
      have il : j < M.rs.length := hj
      obtain ⟨rk0, rk3⟩ := rank_rg g il
      have eR := rank_at il
      have iz : ((0 : Int) + (j : Int)).toNat = j := by omega
      refine ⟨Nat.zero_le _, fun ro hro => ?_⟩
      have s2 := same_upd (o := .lst []) (Same.refl H1) hro
      have e2 : (upd H1 ro (.lst [])) ro = some (.lst (([] : List Int).map V.int)) := upd_same
      generalize upd H1 ro (.lst []) = H2 at *
      have s12 := s1.trans s2
      refine ⟨_, rfl, .inr (.inl ⟨m, _, 0, _, rfl, rfl, SqT.of (s12 _ _ hM.top), rfl, ?_⟩)⟩
      refine ⟨_, rfl, .inr (.inl ⟨r, _, _, _, rfl, rfl, rd_t (rd_same s12 hM.rs), atI_get? (by omega) (by rw [iz]; exact eR), ?_⟩)⟩
      refine ⟨_, rfl, _, _, rfl, rfl, .inr ⟨by omega, by omega⟩, ?_⟩
      refine ⟨_, rfl, by omega, by omega, fun D hD => ?_⟩
      refine lc_range (fun t H' => H' = upd H2 D (.lst ((rgL t).map V.int))) rfl ?_ ?_
      · rintro t H3 ht rfl
        have ht : t < (2 * (M.outs.length : Int)).toNat := ht
        have lr : (rgL t).length = t := by unfold rgL; rw [List.length_map, List.length_range]
        refine ⟨rfl, ?_⟩
        refine ⟨_, rfl, _, upd_same, Nat.lt_of_le_of_lt (by rw [List.length_map, lr]; omega : _ ≤ 6) (by decide), ?_⟩
        rw [upd_upd]
        have : rgL (t + 1) = rgL t ++ [(0 : Int) + (t : Int)] := by
          unfold rgL
          rw [List.range_succ, List.map_append, Int.zero_add]
          rfl
        rw [this, List.map_append]
        rfl
      rintro H3 rfl
      rw [nE]
      have sD := same_upd (o := .lst ((rgL (2 * M.outs.length)).map V.int)) (Same.refl H2) hD
      have eD : (upd H2 D (.lst ((rgL (2 * M.outs.length)).map V.int))) D = some (.lst ((rgL (2 * M.outs.length)).map V.int)) := upd_same
      generalize upd H2 D (.lst ((rgL (2 * M.outs.length)).map V.int)) = H3 at *
      have lr2 : (rgL (2 * M.outs.length)).length = 2 * M.outs.length := by unfold rgL; rw [List.length_map, List.length_range]
      refine ⟨D, rgL (2 * M.outs.length), (M.rank (j : Int)).toNat, by rw [Int.toNat_of_nonneg rk0]; rfl, SqL.of eD, by omega, by omega, fun H4 ql us s4 nq eq rel => ?_⟩
      have s24 := sD.trans s4
      have e4 := s24 _ _ e2
      have e14 := (s2.trans s24) _ _ e1
      have qlq : ql ≠ ro := fun z => by rw [z, sD _ _ e2] at nq; cases nq
      have lro : l ≠ ro := fun z => by rw [z, hro] at e1; cases e1
      refine ⟨ql, rfl, ⟨_, SqL.of eq⟩, ?_⟩
      have lkk : (kidsL (M.rank (j : Int)).toNat (rgL (2 * M.outs.length))).length = (2 * M.outs.length) ^ (M.rank (j : Int)).toNat := by rw [kids_len, lr2]
      have big : (2 * M.outs.length) ^ (M.rank (j : Int)).toNat ≤ 36 := Nat.le_trans (Nat.pow_le_pow_left (show 2 * M.outs.length ≤ 6 by omega) _) (Nat.pow_le_pow_right (by decide) (show (M.rank (j : Int)).toNat ≤ 2 by omega))
      have fro : H ro = none := s1.free hro
      have s04 := s12.trans s24
      refine for_it (walk_list (xs := us.map V.ref)) (fun i σ H' => ∃ (v6 v7 : Option V) (u : List Int), σ = [some (.ref m), some (.ref p), some (.int (M.outs.length : Int)), some (.ref l), some (.int (0 + (j : Int))), some (.ref ro), v6, v7, none, none] ∧ Same H H' ∧ Kq ro H4 H' ∧ H' ro = some (.lst (u.map V.int)) ∧ u.length = i ∧ Lt ((2 * M.outs.length : Nat) : Int) u)
        ⟨v6, v7, [], rfl, s04, Kq.refl, e4, rfl, fun z hz => absurd hz (by simp)⟩ (fun i σ H' _ ⟨_, _, _, _, _, k, _⟩ => SqL.of (k _ _ qlq eq)) ?_ ?_
      · rintro i y σ H5x H5 hi ⟨v6, v7, u, rfl, s5, k5, e5, lu, ltu⟩ ⟨rfl, hy⟩
        obtain ⟨tj, htj, rfl⟩ := ofV hy
        obtain ⟨ks, eks, hks⟩ := rel.to htj
        have hks : H4 tj = some (.tup (ks.map V.int)) := hks
        have li := (List.getElem?_eq_some_iff.1 eks).1
        have tjr : tj ≠ ro := fun z => by rw [z, e4] at hks; cases hks
        have hks5 := k5 _ _ tjr hks
        have mem := (kidsL_mem _ _ _).1 (List.mem_of_getElem? eks)
        have kb : ∀ k ∈ ks, 0 ≤ k ∧ k < ((2 * M.outs.length : Nat) : Int) := fun k hk => rgL_mem.1 (mem.2 k hk)
        have nM : M.n = (M.outs.length : Int) := rfl
        have lk2 : ks.length ≤ 2 := by rw [mem.1]; omega
        refine ⟨_, rfl, _, rfl, _, rfl, tj, rfl, ⟨_, SqT.of hks5⟩, fun D2 hD2 => ?_⟩
        refine lc_it walk_tup (fun a H' => H' = upd H5 D2 (.lst (((ks.map fun k => k % (M.outs.length : Int)).take a).map V.int))) rfl (fun a H' _ e => by rw [e]; exact SqT.of (same_upd (Same.refl _) hD2 _ _ hks5)) ?_ ?_
        · rintro a y H6x H6 ha rfl ⟨rfl, hy⟩
          obtain ⟨k, hk, rfl⟩ := ofV hy
          have la := (List.getElem?_eq_some_iff.1 hk).1
          have hk2 : (ks.map fun k => k % (M.outs.length : Int))[a]? = some (k % (M.outs.length : Int)) := by rw [List.getElem?_map, hk]; rfl
          refine ⟨rfl, ?_⟩
          refine ⟨_, rfl, .inl ⟨_, rfl, ?_⟩⟩
          refine ⟨_, rfl, _, _, rfl, rfl, (by show (0 : Int) < (M.outs.length : Int); omega), ?_⟩
          refine ⟨_, upd_same, Nat.lt_of_le_of_lt (by rw [List.length_map, List.length_take, List.length_map]; omega : _ ≤ 6) (by decide), ?_⟩
          rw [upd_upd, take_more hk2, List.map_append]
          rfl
        rintro H6 rfl
        rw [show (ks.map fun k => k % (M.outs.length : Int)).take (ks.map V.int).length = ks.map fun k => k % (M.outs.length : Int) from List.take_of_length_le (by rw [List.length_map, List.length_map]; exact Nat.le_refl _)]
        have s6 := same_upd (o := .lst ((ks.map fun k => k % (M.outs.length : Int)).map V.int)) (Same.refl H5) hD2
        have eD2 : (upd H5 D2 (.lst ((ks.map fun k => k % (M.outs.length : Int)).map V.int))) D2 = some (.lst ((ks.map fun k => k % (M.outs.length : Int)).map V.int)) := upd_same
        generalize upd H5 D2 (.lst ((ks.map fun k => k % (M.outs.length : Int)).map V.int)) = H6 at *
        have iy : ((0 : Int) + (j : Int)) = (j : Int) := Int.zero_add _
        have kr : KR M (Rg M) j (ks.map fun k => k % (M.outs.length : Int)) := ⟨il, by rw [List.length_map]; exact mem.1, fun k hk => by
          obtain ⟨z, _, rfl⟩ := List.mem_map.1 hk
          exact ⟨Int.emod_nonneg _ (by omega), by rw [nM]; exact Int.emod_lt_of_pos _ (by omega)⟩⟩
        have tg := KR.to_ g kr
        refine ⟨m, D2, M, _, _, rfl, hMA.same (s5.trans s6), g, by omega, by omega, SqL.of eD2, kr.dom, by rw [iy]; exact kr.len, ?_⟩
        rw [iy]
        generalize M.to (j : Int) (ks.map fun k => k % (M.outs.length : Int)) = tgt at *
        have e6 := s6 _ _ e5
        have hp6 := (s5.trans s6).seq hp
        refine ⟨_, rfl, .inl ⟨rfl, _, SqL.of e6⟩, _, rfl, _, rfl, _, rfl, _, rfl, ro, _, rfl, .inl (SqL.of e6), ?_⟩
        refine ⟨_, rfl, p, _, rfl, .inl hp6, ?_⟩
        have ne := hpos.ne
        rw [sl, sl]
        refine ⟨_, _, rfl, rfl, (by show 0 < (ms.length : Int); omega), ?_⟩
        obtain ⟨z, hz, z0, i0⟩ := hpos.at_ (u.length : Int)
        refine .inl ⟨p, _, _, _, rfl, rfl, hp6, atI_get? i0 hz, ?_⟩
        refine ⟨_, rfl, _, _, rfl, rfl, _, _, rfl, rfl, ⟨by omega, by omega⟩, _, _, rfl, rfl, (by show (0 : Int) < 2; decide), ?_⟩
        have b0 := Int.emod_nonneg (z / (3 + (j : Int))) (show (2 : Int) ≠ 0 by decide)
        have b1 := Int.emod_lt_of_pos (z / (3 + (j : Int))) (show (0 : Int) < 2 by decide)
        refine ⟨_, _, rfl, rfl, .inr ⟨by omega, by omega⟩, _, _, rfl, rfl, ro, _, _, rfl, rfl, e6, Nat.lt_of_le_of_lt (by rw [sl]; omega : _ ≤ 36) (by decide), ?_⟩
        have tb : ∀ b : Int, 0 ≤ b → b < 2 → 0 ≤ tgt + (M.outs.length : Int) * b ∧ tgt + (M.outs.length : Int) * b < ((2 * M.outs.length : Nat) : Int) := fun b h0 h1 => by
          obtain ⟨t0, t1⟩ := tg
          rw [nM] at t1
          rcases (show b = 0 ∨ b = 1 by omega) with e | e
          · rw [e, Int.mul_zero]
            omega
          · rw [e, Int.mul_one]
            omega
        have tb := tb _ b0 b1
        refine ⟨_, _, u ++ [tgt + (M.outs.length : Int) * (z / (3 + (j : Int)) % 2)], rfl, same_set (s5.trans s6) fro, (k5.trans (Kq.of s6)).trans Kq.set, by rw [upd_same, List.map_append]; rfl, by rw [List.length_append, lu]; rfl, fun y hy => ?_⟩
        rcases List.mem_append.mp hy with e | e
        · exact ltu y e
        · rw [List.mem_singleton.mp e]
          exact tb
      · rintro σ H5 ⟨v6, v7, u, rfl, s5, k5, e5, lu, ltu⟩
        rw [List.length_map, rel.1, lkk] at lu
        have e15 := k5 _ _ lro e14
        refine ⟨_, rfl, .inl ⟨rfl, _, SqL.of e15⟩, _, rfl, ro, _, rfl, .inl ⟨SqL.of e5, fun q hq => ?_⟩⟩
        have s6 := same_upd (o := .tup (u.map V.int)) s5 hq
        have s56 := same_upd (o := .tup (u.map V.int)) (Same.refl H5) hq
        have eq_ : (upd H5 q (.tup (u.map V.int))) q = some (.tup (u.map V.int)) := upd_same
        have e16 := s56 _ _ e15
        generalize upd H5 q (.tup (u.map V.int)) = H6 at *
        have ql' : q ≠ l := fun z => by
          rw [z, e16] at eq_
          cases eq_
        have row6 : ∀ (i : Nat) (q' : Addr) (w : List Int), ts[i]? = some q' → rows[i]? = some w → H6 q' = some (.tup (w.map V.int)) := fun i q' w a b => by
          have h1 := row i q' w a b
          have h4 := (s2.trans s24) _ _ h1
          exact s56 _ _ (k5 _ _ (fun z => by rw [z, e4] at h4; cases h4) h4)
        refine ⟨l, _, _, rfl, rfl, e16, Nat.lt_of_le_of_lt (by rw [List.length_map]; omega : _ ≤ 6) (by decide), ?_⟩
        refine ⟨_, _, _, _, ts ++ [q], rows ++ [u], rfl, same_set s6 hl, by rw [upd_same, List.map_append]; rfl, by rw [List.length_append, lts]; rfl, by rw [List.length_append, lrows]; rfl, fun i q' w a b => ?_, fun i x w a b => ?_, fun w hw => ?_⟩
        · rcases Nat.lt_or_ge i j with c1 | c1
          · rw [List.getElem?_append_left (by omega)] at a b
            have := row6 i q' w a b
            rw [upd_ne (fun z => by rw [z, e16] at this; cases this)]
            exact this
          · have il := (List.getElem?_eq_some_iff.mp a).1
            rw [List.length_append] at il
            have : i = j := by
              have : [q].length = 1 := rfl
              omega
            subst this
            rw [List.getElem?_append_right (by omega), show i - ts.length = 0 by omega] at a
            rw [List.getElem?_append_right (by omega), show i - rows.length = 0 by omega] at b
            cases a
            cases b
            rw [upd_ne ql']
            exact eq_
        · rcases Nat.lt_or_ge i j with c1 | c1
          · rw [List.getElem?_append_left (by omega)] at b
            exact sz i x w a b
          · have il := (List.getElem?_eq_some_iff.mp b).1
            rw [List.length_append] at il
            have : i = j := by
              have : [u].length = 1 := rfl
              omega
            subst this
            rw [List.getElem?_append_right (by omega), show i - rows.length = 0 by omega] at b
            cases b
            rw [eR] at a
            cases a
            exact lu
        · rcases List.mem_append.mp hw with e | e
          · exact lt w e
          · rw [List.mem_singleton.mp e]
            exact ltu
    · rintro σ H1 ⟨v4, v5, v6, v7, ts, rows, rfl, s1, e1, lts, lrows, row, sz, lt⟩
      have r1 := rd_same s1 hM.rs
      refine ⟨_, rfl, .inr (.inl ⟨m, _, 0, _, rfl, rfl, SqT.of (s1 _ _ hM.top), rfl, ?_⟩)⟩
      refine ⟨_, rfl, .inr (.inl ⟨m, _, 1, _, rfl, rfl, SqT.of (s1 _ _ hM.top), rfl, ?_⟩)⟩
      refine ⟨_, rfl, l, _, rfl, .inl ⟨SqL.of e1, fun tr htr => ?_⟩⟩
      have s2 := same_upd (o := .tup (ts.map V.ref)) s1 htr
      have s12 := same_upd (o := .tup (ts.map V.ref)) (Same.refl H1) htr
      have e2 : (upd H1 tr (.tup (ts.map V.ref))) tr = some (.tup (ts.map V.ref)) := upd_same
      generalize upd H1 tr (.tup (ts.map V.ref)) = H2 at *
      refine ⟨_, rfl, .inr (.inl ⟨m, _, 3, _, rfl, rfl, SqT.of (s2 _ _ hM.top), rfl, ?_⟩)⟩
      refine ⟨_, rfl, .inr (.inl ⟨m, _, 3, _, rfl, rfl, SqT.of (s2 _ _ hM.top), rfl, ?_⟩)⟩
      have one : M.outs.map V.int ≠ [] := fun z => by
        have := congrArg List.length z
        rw [sl] at this
        have this : M.outs.length = 0 := this
        omega
      refine ⟨ou, ou, _, _, rfl, rfl, SqT.of (s2 _ _ hM.ou), SqT.of (s2 _ _ hM.ou), Nat.le_trans (by rw [sl]; omega : _ ≤ 12) (by decide), (fun z => absurd z one), (fun _ z => absurd z one), fun _ _ to hto => ?_⟩
      have s3 := same_upd (o := .tup (M.outs.map V.int ++ M.outs.map V.int)) s2 hto
      have s23 := same_upd (o := .tup (M.outs.map V.int ++ M.outs.map V.int)) (Same.refl H2) hto
      have e3 : (upd H2 to (.tup (M.outs.map V.int ++ M.outs.map V.int))) to = some (.tup ((M.outs ++ M.outs).map V.int)) := by rw [upd_same, List.map_append]
      generalize upd H2 to (.tup (M.outs.map V.int ++ M.outs.map V.int)) = H3 at *
      refine ⟨(by show 4 ≤ sizeLine; decide), fun mm hmm => ?_⟩
      have s4 := same_upd (o := .tup [.ref r, .int M.os, .ref tr, .ref to]) s3 hmm
      have s34 := same_upd (o := .tup [.ref r, .int M.os, .ref tr, .ref to]) (Same.refl H3) hmm
      have l2 : (M.outs ++ M.outs).length = 2 * M.outs.length := by rw [List.length_append]; omega
      refine fin _ mm ⟨M.rs, M.os, rows, M.outs ++ M.outs⟩ ⟨g.rk, g.o1, g.o4, by show 1 ≤ (M.outs ++ M.outs).length; omega, by show (M.outs ++ M.outs).length ≤ 6; omega, fun y hy => ?_, lrows, fun i x w a b => ?_, fun w hw => ?_⟩ rfl rfl s4
        ⟨r, tr, to, ts, upd_same, rd_same s34 (rd_same s23 (rd_same s12 r1)), s34 _ _ (s23 _ _ e2), s34 _ _ e3, lts.trans lrows.symm, fun i q w a b => s34 _ _ (s23 _ _ (s12 _ _ (row i q w a b)))⟩
      · rcases List.mem_append.1 hy with z | z
        · exact g.ob y z
        · exact g.ob y z
      · show w.length = (M.outs ++ M.outs).length ^ x.toNat
        rw [l2]
        exact sz i x w a b
      · show Lt ((M.outs ++ M.outs).length : Int) w
        rw [l2]
        exact lt w hw
end
end K63

set_option Elab.async false
set_option linter.all false
set_option maxRecDepth 100000
set_option maxHeartbeats 4000000
namespace K63
open PySem PySem.Spec PyProof.Rows L2 Mz
theorem ifJoinS {t : L2.TT} {body u : TS} {D : Ends} {σ : L2.St} {H : Hp} (Mid : L2.St → Hp → Prop) (h1 : (∀ σ' H', Mid σ' H' → u D σ' H') → t σ H fun b H2 => if b = true then body { D with nx := u D } σ H2 else u D σ H2) (h : ∀ σ' H', Mid σ' H' → u D σ' H') : tSeq (tIfS t body tNext) u D σ H := h1 h
/-- rounds that go on till nothing is alike -/
theorem parted_RT {M : TM} (g : GoodT M) (pt : Parted M) : ∀ x y, x < M.outs.length → y < M.outs.length → RT M M.outs.length x y → x = y := by
  intro x y hx hy h
  refine Classical.byContradiction fun ne => ?_
  have nn : M.n = (M.outs.length : Int) := rfl
  have down : ∀ d t, RT M (t + d) x y → RT M t x y := fun d => by
    induction d with
    | zero => exact fun t h => h
    | succ d ih => exact fun t h => ih t h.1
  have up : ∀ t, t ≤ M.outs.length → cnt M.outs.length (RT M t) < cnt M.outs.length (RT M (t + 1)) := fun t ht => by
    refine cnt_lt (eqv_RT M M.outs.length t) (eqv_RT M M.outs.length (t + 1)) (fun x y h => h.1) (Classical.byContradiction fun no => ?_)
    have st : ∀ x y, x < M.outs.length → y < M.outs.length → RT M t x y → RT M (t + 1) x y := fun a b ha hb hab => Classical.byContradiction fun n => no ⟨a, b, ha, hb, hab, n⟩
    have C := stop_cong g st
    have e := pt _ C (x : Int) (y : Int) ⟨by omega, by omega⟩ ⟨by omega, by omega⟩ (by
      show RT M t (x : Int).toNat (y : Int).toNat
      rw [Int.toNat_natCast, Int.toNat_natCast]
      exact down (M.outs.length - t) t (by rw [show t + (M.outs.length - t) = M.outs.length by omega]; exact h))
    omega
  have ge : ∀ t, t ≤ M.outs.length + 1 → t ≤ cnt M.outs.length (RT M t) := fun t => by
    induction t with
    | zero => exact fun _ => Nat.zero_le _
    | succ t ih =>
      intro ht
      have := up t (by omega)
      have := ih (by omega)
      omega
  have a := ge (M.outs.length + 1) (Nat.le_refl _)
  have b := cnt_le M.outs.length (RT M (M.outs.length + 1))
  omega
def oth (M : TM) (S : List Int) (x : Int) (s : Nat) (o : Int) : List Int := if M.rank (s : Int) = 2 then [gS S (M.to s [x, o]), gS S (M.to s [o, x])] else []
def unoT (M : TM) (S : List Int) (x : Int) (s : Nat) : List Int := if M.rank (s : Int) = 1 then [gS S (M.to s [x])] else []
def symT (M : TM) (S : List Int) (x : Int) (s : Nat) : List Int := unoT M S x s ++ (rgL M.outs.length).flatMap (oth M S x s)
def rowP (M : TM) (S : List Int) (x : Int) (s : Nat) : List Int := gS S x :: (List.range s).flatMap (symT M S x)
theorem rowP_more (M : TM) (S : List Int) (x : Int) (s : Nat) : rowP M S x (s + 1) = rowP M S x s ++ symT M S x s := by
  unfold rowP
  rw [List.range_succ, List.flatMap_append, List.flatMap_singleton]
  rfl
theorem oth_len (M : TM) (S : List Int) (x y : Int) (s : Nat) (o : Int) : (oth M S x s o).length = (oth M S y s o).length := by
  unfold oth
  split <;> rfl
theorem uno_len (M : TM) (S : List Int) (x y : Int) (s : Nat) : (unoT M S x s).length = (unoT M S y s).length := by
  unfold unoT
  split <;> rfl
theorem sym_len (M : TM) (S : List Int) (x y : Int) (s : Nat) : (symT M S x s).length = (symT M S y s).length := by
  unfold symT
  rw [List.length_append, List.length_append, uno_len M S x y, List.length_flatMap, List.length_flatMap, List.map_congr_left fun o _ => oth_len M S x y s o]
def KerT (M : TM) (t : Nat) (S : List Int) : Prop := S.length = M.outs.length ∧ ∀ p q : Int, Rg M p → Rg M q → (gS S p = gS S q ↔ RT M t p.toNat q.toNat)
theorem row_eq {M : TM} (g : GoodT M) {t : Nat} {S : List Int} (k : KerT M t S) {x y : Int} (hx : Rg M x) (hy : Rg M y) : rowP M S x M.rs.length = rowP M S y M.rs.length ↔ RT M (t + 1) x.toNat y.toNat := by
  have xz : ((x.toNat : Nat) : Int) = x := hx.of.2
  have yz : ((y.toNat : Nat) : Int) = y := hy.of.2
  have nn : M.n = (M.outs.length : Int) := rfl
  have e1 : rowP M S x M.rs.length = rowP M S y M.rs.length ↔ gS S x = gS S y ∧ ∀ s, s < M.rs.length → symT M S x s = symT M S y s := by
    unfold rowP
    rw [List.cons.injEq, flat_eq _ _ _ fun s _ => sym_len M S x y s]
    exact and_congr Iff.rfl ⟨fun h s hs => h s (List.mem_range.2 hs), fun h s hs => h s (List.mem_range.1 hs)⟩
  rw [e1, k.2 x y hx hy]
  show _ ↔ RT M t x.toNat y.toNat ∧ _
  refine and_congr Iff.rfl ⟨fun h s hs o ho => ?_, fun h s hs => ?_⟩
  · have e := h s hs
    unfold symT at e
    obtain ⟨eu, eo⟩ := List.append_inj e (uno_len M S x y s)
    obtain ⟨a1, a2⟩ := ctx_rg g hs ho hx
    obtain ⟨b1, b2⟩ := ctx_rg g hs ho hy
    rw [xz, yz, ← k.2 _ _ a1 b1, ← k.2 _ _ a2 b2]
    obtain ⟨l, m⟩ := (afK_mem g hs).1 ho
    obtain ⟨r0, r3⟩ := rank_rg g hs
    match o, l, m with
    | [], l, m =>
      have r1 : M.rank (s : Int) = 1 := by
        have : (0 : Nat) + 1 = (M.rank (s : Int)).toNat := l
        omega
      unfold unoT at eu
      rw [if_pos r1, if_pos r1] at eu
      injection eu with eu _
      exact ⟨eu, eu⟩
    | [z], l, m =>
      have r2 : M.rank (s : Int) = 2 := by
        have : (1 : Nat) + 1 = (M.rank (s : Int)).toNat := l
        omega
      have hz := m z List.mem_cons_self
      have e2 := (flat_eq _ _ _ fun o _ => oth_len M S x y s o).1 eo z (rgL_mem.2 hz)
      unfold oth at e2
      rw [if_pos r2, if_pos r2] at e2
      injection e2 with c1 e2
      injection e2 with c2 _
      exact ⟨c1, c2⟩
    | _ :: _ :: _, l, _ => simp at l; omega
  · have hh : ∀ o ∈ afK M s, gS S (M.to s (x :: o)) = gS S (M.to s (y :: o)) ∧ gS S (M.to s (o ++ [x])) = gS S (M.to s (o ++ [y])) := fun o ho => by
      obtain ⟨a1, a2⟩ := ctx_rg g hs ho hx
      obtain ⟨b1, b2⟩ := ctx_rg g hs ho hy
      have := h s hs o ho
      rwa [xz, yz, ← k.2 _ _ a1 b1, ← k.2 _ _ a2 b2] at this
    unfold symT
    congr 1
    · unfold unoT
      by_cases r1 : M.rank (s : Int) = 1
      · rw [if_pos r1, if_pos r1, (hh [] ((afK_mem g hs).2 ⟨by rw [r1]; rfl, fun k hk => by cases hk⟩)).1]
      · rw [if_neg r1, if_neg r1]
    · refine (flat_eq _ _ _ fun o _ => oth_len M S x y s o).2 fun o ho => ?_
      unfold oth
      by_cases r2 : M.rank (s : Int) = 2
      · have := hh [o] ((afK_mem g hs).2 ⟨by rw [r2]; rfl, fun k hk => by rw [List.mem_singleton.1 hk]; exact rgL_mem.1 ho⟩)
        rw [if_pos r2, if_pos r2, this.1]
        exact congrArg (fun z => [_, z]) this.2
      · rw [if_neg r2, if_neg r2]
theorem LLk {H H' : Hp} {as : List Addr} {D : List (List Int)} (h : LL H as D) (k : ∀ a u, a ∈ as → H a = some u → H' a = some u) : LL H' as D := ⟨h.1, fun i a w h1 h2 => k a _ (List.mem_of_getElem? h1) (h.2 i a w h1 h2)⟩
theorem LLput {H : Hp} {as : List Addr} {D : List (List Int)} (h : LL H as D) {a : Addr} {w : List Int} (e : H a = some (.lst (w.map V.int))) : LL H (as ++ [a]) (D ++ [w]) := by
  refine ⟨by rw [List.length_append, List.length_append, h.1]; rfl, fun i b v h1 h2 => ?_⟩
  have l := h.1
  rcases Nat.lt_or_ge i as.length with c | c
  · rw [List.getElem?_append_left (by omega)] at h1 h2
    exact h.2 i b v h1 h2
  · have il := (List.getElem?_eq_some_iff.mp h1).1
    rw [List.length_append] at il
    have : i = as.length := by
      have : [a].length = 1 := rfl
      omega
    subst this
    rw [List.getElem?_append_right (by omega), Nat.sub_self] at h1
    rw [List.getElem?_append_right (by omega), show as.length - D.length = 0 by omega] at h2
    cases h1
    cases h2
    exact e
def fi (D : List (List Int)) (w : List Int) : Nat := D.findIdx fun y => decide (y = w)
theorem fi_at {D : List (List Int)} {w : List Int} (m : w ∈ D) : fi D w < D.length ∧ D[fi D w]? = some w := by
  have l : fi D w < D.length := List.findIdx_lt_length_of_exists ⟨w, m, decide_eq_true rfl⟩
  have e : D[fi D w] = w := of_decide_eq_true (List.findIdx_getElem (w := l))
  exact ⟨l, by rw [List.getElem?_eq_getElem l, e]⟩
theorem fi_inj {D : List (List Int)} {u w : List Int} (hu : u ∈ D) (hw : w ∈ D) (e : fi D u = fi D w) : u = w := by
  have a := (fi_at hu).2
  rw [e, (fi_at hw).2] at a
  exact (Option.some.inj a).symm
theorem fi_app {D : List (List Int)} {u w : List Int} (hu : u ∈ D) : fi (D ++ [w]) u = fi D u := by
  have l := (fi_at hu).1
  unfold fi at l ⊢
  rw [List.findIdx_append, if_pos l]
theorem fi_new {D : List (List Int)} {w : List Int} (hw : w ∉ D) : fi (D ++ [w]) w = D.length := by
  have l : D.findIdx (fun y => decide (y = w)) = D.length := List.findIdx_eq_length_of_false fun x hx => by
    simp
    intro z
    rw [z] at hx
    exact hw hx
  unfold fi
  rw [List.findIdx_append, if_neg (by omega)]
  simp
/-- rows and their places, so far -/
structure Aft (R : Int → List Int) (i : Nat) (D : List (List Int)) (av : List Int) : Prop where
  dl : D.length ≤ i
  al : av.length = i
  mem : ∀ k, k < i → R (k : Int) ∈ D ∧ av[k]? = some ((fi D (R (k : Int)) : Nat) : Int)
  from_ : ∀ w ∈ D, ∃ k, k < i ∧ R (k : Int) = w
theorem Aft.nil {R : Int → List Int} : Aft R 0 [] [] := ⟨Nat.le_refl _, rfl, fun k h => absurd h (Nat.not_lt_zero k), fun w h => by cases h⟩
theorem Aft.old {R : Int → List Int} {i : Nat} {D : List (List Int)} {av : List Int} (h : Aft R i D av) (m : R (i : Int) ∈ D) : Aft R (i + 1) D (av ++ [((fi D (R (i : Int)) : Nat) : Int)]) := by
  have al := h.al
  refine ⟨Nat.le_succ_of_le h.dl, by rw [List.length_append, h.al]; rfl, fun k hk => ?_, fun w hw => ?_⟩
  · rcases Nat.lt_succ_iff_lt_or_eq.1 hk with z | z
    · obtain ⟨a, b⟩ := h.mem k z
      exact ⟨a, by rw [List.getElem?_append_left (by omega)]; exact b⟩
    · subst z
      refine ⟨m, ?_⟩
      rw [List.getElem?_append_right (by omega), h.al, Nat.sub_self]
      rfl
  · obtain ⟨k, a, b⟩ := h.from_ w hw
    exact ⟨k, by omega, b⟩
theorem Aft.new {R : Int → List Int} {i : Nat} {D : List (List Int)} {av : List Int} (h : Aft R i D av) (m : R (i : Int) ∉ D) : Aft R (i + 1) (D ++ [R (i : Int)]) (av ++ [((fi (D ++ [R (i : Int)]) (R (i : Int)) : Nat) : Int)]) := by
  have al := h.al
  refine ⟨by rw [List.length_append]; exact Nat.succ_le_succ h.dl, by rw [List.length_append, h.al]; rfl, fun k hk => ?_, fun w hw => ?_⟩
  · rcases Nat.lt_succ_iff_lt_or_eq.1 hk with z | z
    · obtain ⟨a, b⟩ := h.mem k z
      exact ⟨List.mem_append_left _ a, by rw [List.getElem?_append_left (by omega), fi_app a]; exact b⟩
    · subst z
      refine ⟨List.mem_append_right _ (List.mem_singleton.2 rfl), ?_⟩
      rw [List.getElem?_append_right (by omega), h.al, Nat.sub_self]
      rfl
  · rcases List.mem_append.1 hw with z | z
    · obtain ⟨k, a, b⟩ := h.from_ w z
      exact ⟨k, by omega, b⟩
    · exact ⟨i, Nat.lt_succ_self i, (List.mem_singleton.1 z).symm⟩
theorem Aft.ker {M : TM} {R : Int → List Int} {D : List (List Int)} {av : List Int} {t : Nat} (h : Aft R M.outs.length D av) (e : ∀ p q, Rg M p → Rg M q → (R p = R q ↔ RT M t p.toNat q.toNat)) : KerT M t av := by
  refine ⟨h.al, fun p q hp hq => ?_⟩
  rw [← e p q hp hq]
  obtain ⟨p1, p2⟩ := hp.of
  obtain ⟨q1, q2⟩ := hq.of
  obtain ⟨a, b⟩ := h.mem _ p1
  obtain ⟨c, d⟩ := h.mem _ q1
  rw [p2] at a b
  rw [q2] at c d
  unfold gS
  rw [List.getD_eq_getElem?_getD, List.getD_eq_getElem?_getD, b, d]
  show ((fi D (R p) : Nat) : Int) = ((fi D (R q) : Nat) : Int) ↔ _
  constructor
  · intro z
    exact fi_inj a c (by omega)
  · intro z
    rw [z]
/-- rows that are all different have their own places -/
theorem Aft.all {R : Int → List Int} {D : List (List Int)} {n : Nat} (inj : ∀ x y : Nat, x < n → y < n → R (x : Int) = R (y : Int) → x = y) : ∀ {i : Nat} {av : List Int}, i ≤ n → Aft R i D av → D = (List.range i).map (fun x : Nat => R (x : Int)) → av = rgL i := fun {i av} hi h e => by
  refine List.ext_getElem? fun k => ?_
  by_cases c : k < i
  · obtain ⟨a, b⟩ := h.mem k c
    have f := (fi_at a)
    have fl : fi D (R (k : Int)) < i := by
      have l : D.length = i := by rw [e, List.length_map, List.length_range]
      have := f.1
      omega
    have f2 := f.2
    generalize fi D (R (k : Int)) = j at *
    rw [e, List.getElem?_map, List.getElem?_range fl] at f2
    have := inj _ _ (by omega) (by omega) (Option.some.inj f2)
    rw [b, this]
    unfold rgL
    rw [List.getElem?_map, List.getElem?_range c]
    rfl
  · have l1 := h.al
    have l2 : (rgL i).length = i := by unfold rgL; rw [List.length_map, List.length_range]
    rw [List.getElem?_eq_none (by omega), List.getElem?_eq_none (by omega)]
def spParted : Sp := fun vs H Q _ => ∃ (m : Addr) (M : TM), vs = [.ref m] ∧ TMA H m M ∧ GoodT M ∧ Parted M ∧ ∀ H' : Hp, Same H H' → Q (.bl true) H'
section
variable {P : Program} {w : World} {K : PySem.W.Frag} {mg : Str → Option Value} {base : Heap} {A : Ads} {c Pt : Addr}
theorem ok_parted (T : Txt K mg A) : FnOk P w K mg base CX0 2 A.a_law_parted A.d_law_parted ["machine"] spParted := by
  have G_law_rule := ok_rule (P := P) (w := w) (base := base) T
  refine T.F_law_parted.ok sc_law_parted (fun vs H Q E h => ?_) (fun cdv Ar outer s H vs Q E hr h => ?_)
  · obtain ⟨_, _, rfl, _⟩ := h
    rfl
  · have hr_law_rule : Room 1 _ := hr
    refine ⟨_, (pss_cons (ps_setLc (i := 2) (own := [("state", 1)]) (g := (gName 1)) (tt := tYes) rfl sc_law_parted.nd rfl rfl (sw_true rfl rfl rfl (by decide +kernel)) (pi_range1 (by rfl) T.n_range (pa_cons (pe_callB call_len_seq (by rfl) T.n_len PySem.boot_len (pa_cons (pe_ix (r := rIx K) ix_seq (pv 0) pe_int (fun _ _ => rfl)) pa_nil)) pa_nil)) (blkOk_by (N := ["machine", "state", "states", "kinds", "turn", "rows", "after", "row", "symbol", "other"]) (sc := defScope s_law_parted) (by decide +kernel)) (fun _ _ _ _ _ => (pg_name (i := 1) sc_law_parted.nd rfl (Or.inl rfl))) (fun _ _ _ _ _ => pts_nil) (fun _ _ _ _ _ => (pv 1)))
      (pss_cons (ps_set (i := 3) sc_law_parted.nd rfl (Or.inl rfl) (pe_callTy call_list_of (by rfl) T.n_list (by decide +kernel) (pa_cons (pe_ix (r := rIx K) ix_seq (pv 0) pe_int (fun _ _ => rfl)) pa_nil)))
      (pss_cons (ps_for PassesOwn.never rfl (pi_range1 (by rfl) T.n_range (pa_cons (pe_callB call_len_seq (by rfl) T.n_len PySem.boot_len (pa_cons (pv 2) pa_nil)) pa_nil)) (pg_name (i := 4) sc_law_parted.nd rfl (Or.inl rfl))
        (pss_cons (ps_set (i := 5) sc_law_parted.nd rfl (Or.inl rfl) (pe_lst pa_nil))
          (pss_cons (ps_set (i := 6) sc_law_parted.nd rfl (Or.inl rfl) (pe_lst pa_nil))
          (pss_cons (ps_for PassesOwn.never rfl (pi_list (pv 2)) (pg_name (i := 1) sc_law_parted.nd rfl (Or.inl rfl))
            (pss_cons (ps_set (i := 7) sc_law_parted.nd rfl (Or.inl rfl) (pe_lst (pa_cons (pe_ix (r := rIx K) ix_seq (pv 3) (pv 1) (fun _ _ => rfl)) pa_nil)))
              (pss_cons (ps_for PassesOwn.never rfl (pi_range1 (by rfl) T.n_range (pa_cons (pe_callB call_len_seq (by rfl) T.n_len PySem.boot_len (pa_cons (pe_ix (r := rIx K) ix_seq (pv 0) pe_int (fun _ _ => rfl)) pa_nil)) pa_nil)) (pg_name (i := 8) sc_law_parted.nd rfl (Or.inl rfl))
                (pss_cons (ps_if (pt_cmpR op_eq (pe_ix (r := rIx K) ix_seq (pe_ix (r := rIx K) ix_seq (pv 0) pe_int (fun _ _ => rfl)) (pv 8) (fun _ _ => rfl)) pe_int (nomark _)) (pss_one (ps_expr (pe_bm PySem.F.plainAttrs_list PySem.F.slot_list_append PySem.F.type_list_append mt_append (pv 7) (pa_cons (pe_ix (r := rIx K) ix_seq (pv 3) (pe_call G_law_rule hr_law_rule (by rfl) T.g_law_rule T.F_law_rule.kp T.b_law_rule .nil pass0 (pa_cons (pv 0) (pa_cons (pv 8) (pa_cons (pe_lst (pa_cons (pv 1) pa_nil)) pa_nil)))) (fun _ _ => rfl)) pa_nil)))) pss_nil)
                  (pss_one (ps_for PassesOwn.never rfl (pi_list (pv 2)) (pg_name (i := 9) sc_law_parted.nd rfl (Or.inl rfl))
                    (pss_one (ps_if (pt_cmpR op_eq (pe_ix (r := rIx K) ix_seq (pe_ix (r := rIx K) ix_seq (pv 0) pe_int (fun _ _ => rfl)) (pv 8) (fun _ _ => rfl)) pe_int (nomark _)) (pss_cons (ps_expr (pe_bm PySem.F.plainAttrs_list PySem.F.slot_list_append PySem.F.type_list_append mt_append (pv 7) (pa_cons (pe_ix (r := rIx K) ix_seq (pv 3) (pe_call G_law_rule hr_law_rule (by rfl) T.g_law_rule T.F_law_rule.kp T.b_law_rule .nil pass0 (pa_cons (pv 0) (pa_cons (pv 8) (pa_cons (pe_lst (pa_cons (pv 1) (pa_cons (pv 9) pa_nil))) pa_nil)))) (fun _ _ => rfl)) pa_nil)))
                          (pss_one (ps_expr (pe_bm PySem.F.plainAttrs_list PySem.F.slot_list_append PySem.F.type_list_append mt_append (pv 7) (pa_cons (pe_ix (r := rIx K) ix_seq (pv 3) (pe_call G_law_rule hr_law_rule (by rfl) T.g_law_rule T.F_law_rule.kp T.b_law_rule .nil pass0 (pa_cons (pv 0) (pa_cons (pv 8) (pa_cons (pe_lst (pa_cons (pv 9) (pa_cons (pv 1) pa_nil))) pa_nil)))) (fun _ _ => rfl)) pa_nil))))) pss_nil))))))
              (pss_cons (ps_if (pt_cmpR (op_notInD (hu65 hr)) (pv 7) (pv 5) rfl) (pss_one (ps_expr (pe_bm PySem.F.plainAttrs_list PySem.F.slot_list_append PySem.F.type_list_append mt_append (pv 5) (pa_cons (pv 7) pa_nil)))) pss_nil)
              (pss_one (ps_expr (pe_bm PySem.F.plainAttrs_list PySem.F.slot_list_append PySem.F.type_list_append mt_append (pv 6) (pa_cons (pe_bm PySem.F.plainAttrs_list PySem.F.slot_list_index PySem.F.type_list_index (mt_indexD (hu65 hr)) (pv 5) (pa_cons (pv 7) pa_nil)) pa_nil))))))))
          (pss_one (ps_set (i := 3) sc_law_parted.nd rfl (Or.inl rfl) (pv 6)))))))
      (pss_one (ps_ret (pe_or (pe_cmpR op_eq (pe_callB call_len_seq (by rfl) T.n_len PySem.boot_len (pa_cons (pv 2) pa_nil)) pe_int (nomark _)) (pe_one (pe_cmpR (op_eqD hr.units) (pe_callB cr_sorted (by rfl) T.n_sorted (by decide +kernel) (pa_cons (pv 3) pa_nil)) (pv 2) (nomark _))))))))), ?_⟩
    obtain ⟨m, M, rfl, hMA, g, pt, fin⟩ := h
    obtain ⟨r, ru, ou, qs, hM⟩ := id hMA
    have n6 := g.n6
    have n1 := g.n1
    have r5 := (ranks_iff.mp g.rk).2.1
    have nn : M.n = (M.outs.length : Int) := rfl
    have sl : ∀ {xs : List Int}, (xs.map V.int).length = xs.length := fun {xs} => List.length_map ..
    have disc := parted_RT g pt
    have oa : ∀ {x : Int}, Rg M x → M.outs[x.toNat]? = some (outO M x) := fun {x} hx => by
      obtain ⟨a, _⟩ := hx.of
      unfold outO
      rw [List.getD_eq_getElem?_getD, List.getElem?_eq_getElem a]
      rfl
    have rl : ∀ n, (rgL n).length = n := fun n => by unfold rgL; rw [List.length_map, List.length_range]
    have rat : ∀ {n i : Nat} {x : Int}, (rgL n)[i]? = some x → x = (i : Int) ∧ i < n := fun {n i x} h => by
      have l := (List.getElem?_eq_some_iff.1 h).1
      rw [rl] at l
      unfold rgL at h
      rw [List.getElem?_map, List.getElem?_range l] at h
      exact ⟨(Option.some.inj h).symm, l⟩
    refine ⟨_, rfl, .inr (.inl ⟨m, _, 3, _, rfl, rfl, SqT.of hM.top, rfl, ?_⟩)⟩
    refine ⟨ou, _, rfl, .inr (SqT.of hM.ou), ?_⟩
    rw [sl]
    refine ⟨M.outs.length, rfl, by omega, by omega, fun st hst => ?_⟩
    refine lc_range (fun t H' => H' = upd H st (.lst ((rgL t).map V.int))) rfl ?_ ?_
    · rintro t H3 ht rfl
      have ht : t < M.outs.length := ht
      refine ⟨rfl, ?_⟩
      refine ⟨_, rfl, _, upd_same, Nat.lt_of_le_of_lt (by rw [List.length_map, rl]; omega : _ ≤ 6) (by decide), ?_⟩
      rw [upd_upd]
      have : rgL (t + 1) = rgL t ++ [(0 : Int) + (t : Int)] := by
        unfold rgL
        rw [List.range_succ, List.map_append, Int.zero_add]
        rfl
      rw [this, List.map_append]
      rfl
    rintro H0 rfl
    rw [show ((M.outs.length : Nat) : Int).toNat = M.outs.length from Int.toNat_natCast _]
    have s0 := same_upd (o := .lst ((rgL M.outs.length).map V.int)) (Same.refl H) hst
    have est : (upd H st (.lst ((rgL M.outs.length).map V.int))) st = some (.lst ((rgL M.outs.length).map V.int)) := upd_same
    generalize upd H st (.lst ((rgL M.outs.length).map V.int)) = H0 at *
    refine ⟨_, rfl, .inr (.inl ⟨m, _, 3, _, rfl, rfl, SqT.of (s0 _ _ hM.top), rfl, ?_⟩)⟩
    refine ⟨ou, _, rfl, .inr (SqT.of (s0 _ _ hM.ou)), fun k0 hk0 => ?_⟩
    have s1 := same_upd (o := .lst (M.outs.map V.int)) (Same.refl H0) hk0
    have ek0 : (upd H0 k0 (.lst (M.outs.map V.int))) k0 = some (.lst (M.outs.map V.int)) := upd_same
    generalize upd H0 k0 (.lst (M.outs.map V.int)) = H1 at *
    have ker0 : KerT M 0 M.outs := ⟨rfl, fun p q hp hq => by
      show _ ↔ outO M ((p.toNat : Nat) : Int) = outO M ((q.toNat : Nat) : Int)
      rw [hp.of.2, hq.of.2]
      exact Iff.rfl⟩
    refine ⟨_, rfl, st, _, rfl, .inl (SqL.of (s1 _ _ est)), ?_⟩
    rw [sl, rl]
    refine ⟨M.outs.length, rfl, by omega, by omega, for_range (fun t σ H' => ∃ (v1 v4 v5 v6 v7 v8 v9 : Option V) (kr : Addr) (KS : List Int), σ = [some (.ref m), v1, some (.ref st), some (.ref kr), v4, v5, v6, v7, v8, v9] ∧ Same H H' ∧ H' st = some (.lst ((rgL M.outs.length).map V.int)) ∧ H' kr = some (.lst (KS.map V.int)) ∧ KerT M t KS ∧ (0 < t → (∀ x y, x < M.outs.length → y < M.outs.length → RT M t x y → x = y) → KS = rgL M.outs.length))
      ⟨none, none, none, none, none, none, none, k0, M.outs, rfl, s0.trans s1, s1 _ _ est, ek0, ker0, fun z => absurd z (Nat.lt_irrefl 0)⟩ ?_ ?_⟩
    · rintro t σ H2 ht ⟨v1, v4, v5, v6, v7, v8, v9, kr, KS, rfl, s2, est2, ekr2, ker, _⟩
      refine ⟨Nat.zero_le _, fun ra hra => ?_⟩
      have a1 := same_upd (o := .lst []) (Same.refl H2) hra
      have era : (upd H2 ra (.lst [])) ra = some (.lst (([] : List Addr).map V.ref)) := upd_same
      generalize upd H2 ra (.lst []) = H3 at *
      refine ⟨Nat.zero_le _, fun af haf => ?_⟩
      have a2 := same_upd (o := .lst []) (Same.refl H3) haf
      have eaf : (upd H3 af (.lst [])) af = some (.lst (([] : List Int).map V.int)) := upd_same
      have raf : ra ≠ af := fun z => by rw [← z, era] at haf; cases haf
      have era := a2 _ _ era
      have s24 := a1.trans a2
      have haf2 : H2 af = none := a1.free haf
      generalize upd H3 af (.lst []) = H4 at *
      refine ⟨_, rfl, st, rfl, ⟨_, SqL.of (s24 _ _ est2)⟩, ?_⟩
      have lks : KS.length = M.outs.length := ker.1
      have kat : ∀ {x : Int}, Rg M x → atI (KS.map V.int) x = some (.int (gS KS x)) := fun {x} hx => atI_get? hx.1 (by
        obtain ⟨a, _⟩ := hx.of
        unfold gS
        rw [List.getD_eq_getElem?_getD, List.getElem?_eq_getElem (by omega)]
        rfl)
      have req := fun (p q : Int) (hp : Rg M p) (hq : Rg M q) => row_eq g ker hp hq
      generalize hR : (fun x : Int => rowP M KS x M.rs.length) = R
      refine for_it (walk_list (xs := (rgL M.outs.length).map V.int)) (fun i σ H' => ∃ (v1 v7 v8 v9 : Option V) (as : List Addr) (D : List (List Int)) (av : List Int), σ = [some (.ref m), v1, some (.ref st), some (.ref kr), some (.int (0 + (t : Int))), some (.ref ra), some (.ref af), v7, v8, v9] ∧ Same H2 H' ∧ H' ra = some (.lst (as.map V.ref)) ∧ H' af = some (.lst (av.map V.int)) ∧ LL H' as D ∧ (∀ a ∈ as, a ≠ ra ∧ a ≠ af) ∧ Aft R i D av ∧ ((∀ x y : Nat, x < M.outs.length → y < M.outs.length → R (x : Int) = R (y : Int) → x = y) → D = (List.range i).map fun x : Nat => R (x : Int)))
        ⟨v1, v7, v8, v9, [], [], [], rfl, s24, era, eaf, ⟨rfl, fun i a w h => by simp at h⟩, (fun a ha => by cases ha), Aft.nil, fun _ => rfl⟩ (fun i σ H' _ ⟨_, _, _, _, _, _, _, _, s, _⟩ => SqL.of (s _ _ est2)) ?_ ?_
      · rintro i y σ H5x H5 hi ⟨v1, v7, v8, v9, as, D, av, rfl, s5, er5, ea5, ll5, ne5, aft, inj5⟩ ⟨rfl, hy⟩
        obtain ⟨x, hx, rfl⟩ := ofV hy
        obtain ⟨rfl, hin⟩ := rat hx
        have xr : Rg M (i : Int) := ⟨by omega, by omega⟩
        refine ⟨_, rfl, _, rfl, .inl ⟨kr, _, _, _, rfl, rfl, SqL.of (s5 _ _ ekr2), kat xr, ?_⟩⟩
        refine ⟨(by show 1 ≤ sizeLine; decide), fun rw_ hrw => ?_⟩
        have s6 := same_upd (o := .lst [.int (gS KS (i : Int))]) (Same.refl H5) hrw
        have e6 : (upd H5 rw_ (.lst [.int (gS KS (i : Int))])) rw_ = some (.lst ((rowP M KS (i : Int) 0).map V.int)) := upd_same
        generalize upd H5 rw_ (.lst [.int (gS KS (i : Int))]) = H6 at *
        have s26 := s2.trans (s5.trans s6)
        have frw : H2 rw_ = none := s5.free hrw
        have frwH : H rw_ = none := s2.free frw
        have n2 : ∀ {b : Addr} {u : HO}, H5 b = some u → b ≠ rw_ := fun {b u} e z => by rw [z, hrw] at e; cases e
        refine ⟨_, rfl, .inr (.inl ⟨m, _, 0, _, rfl, rfl, SqT.of (s26 _ _ hM.top), rfl, ?_⟩)⟩
        refine ⟨r, _, rfl, .inr (rd_t (rd_same s26 hM.rs)), ?_⟩
        rw [sl]
        refine ⟨M.rs.length, rfl, by omega, by omega, for_range (fun j σ H' => ∃ (v8 v9 : Option V), σ = [some (.ref m), some (.int (i : Int)), some (.ref st), some (.ref kr), some (.int (0 + (t : Int))), some (.ref ra), some (.ref af), some (.ref rw_), v8, v9] ∧ Same H2 H' ∧ Kq rw_ H6 H' ∧ H' rw_ = some (.lst ((rowP M KS (i : Int) j).map V.int)) ∧ (rowP M KS (i : Int) j).length ≤ 1 + 20 * j) ⟨_, _, rfl, s5.trans s6, Kq.refl, e6, Nat.le_refl _⟩ ?_ ?_⟩
        · rintro j σ H7 hj ⟨v8, v9, rfl, s7, k7, e7, len7⟩
          have il : j < M.rs.length := hj
          obtain ⟨rk0, rk3⟩ := rank_rg g il
          have eR := rank_at il
          have iz : ((0 : Int) + (j : Int)).toNat = j := by omega
          have iy : ((0 : Int) + (j : Int)) = (j : Int) := Int.zero_add _
          have s27 := s2.trans s7
          dsimp only [gName]
          refine ifJoinS (fun σ' H' => σ' = [some (.ref m), some (.int (i : Int)), some (.ref st), some (.ref kr), some (.int (0 + (t : Int))), some (.ref ra), some (.ref af), some (.ref rw_), some (.int (0 + (j : Int))), v9] ∧ Same H2 H' ∧ Kq rw_ H6 H' ∧ H' rw_ = some (.lst ((rowP M KS (i : Int) j ++ unoT M KS (i : Int) j).map V.int))) (fun nx => ?_) ?_
          · refine ⟨_, rfl, .inr (.inl ⟨m, _, 0, _, rfl, rfl, SqT.of (s27 _ _ hM.top), rfl, ?_⟩)⟩
            refine ⟨_, rfl, .inr (.inl ⟨r, _, _, _, rfl, rfl, rd_t (rd_same s27 hM.rs), atI_get? (by omega) (by rw [iz]; exact eR), ?_⟩)⟩
            refine ⟨rfl, _, rfl, ?_⟩
            by_cases r1 : M.rank (j : Int) = 1
            · refine ifDT (decide_eq_true (by rw [r1])) ?_
              refine ⟨_, rfl, .inl ⟨rfl, _, SqL.of e7⟩, _, rfl, _, rfl, _, rfl, _, rfl, (by show 1 ≤ sizeLine; decide), fun d hd => ?_⟩
              have s8 := same_upd (o := .lst [.int (i : Int)]) (Same.refl H7) hd
              have e8 : (upd H7 d (.lst [.int (i : Int)])) d = some (.lst (([(i : Int)] : List Int).map V.int)) := upd_same
              generalize upd H7 d (.lst [.int (i : Int)]) = H8 at *
              have kr1 : KR M (Rg M) j [(i : Int)] := ⟨il, by rw [r1]; rfl, fun k hk => by rw [List.mem_singleton.1 hk]; exact xr⟩
              refine ⟨m, d, M, _, _, rfl, hMA.same (s27.trans s8), g, by omega, by omega, SqL.of e8, kr1.dom, by rw [iy]; exact kr1.len, ?_⟩
              rw [iy]
              refine .inl ⟨kr, _, _, _, rfl, rfl, SqL.of ((s7.trans s8) _ _ ekr2), kat (KR.to_ g kr1), ?_⟩
              refine ⟨rw_, _, _, rfl, rfl, s8 _ _ e7, Nat.lt_of_le_of_lt (by rw [sl]; omega : _ ≤ 200) (by decide), ?_⟩
              refine nx _ _ ⟨by rw [iy]; rfl, same_set (s7.trans s8) frw, (k7.trans (Kq.of s8)).trans Kq.set, ?_⟩
              rw [upd_same, unoT, if_pos r1, List.map_append]
              rfl
            · refine ifDF (decide_eq_false fun z => r1 (by injection z)) ?_
              refine nx _ _ ⟨rfl, s7, k7, ?_⟩
              rw [unoT, if_neg r1, List.append_nil]
              exact e7
          clear e7 k7 s7 s27
          rintro σ H8 ⟨rfl, s8, k8, e8⟩
          have stw : st ≠ rw_ := fun z => by rw [z, frw] at est2; cases est2
          have lu : (unoT M KS (i : Int) j).length ≤ 1 := by
            unfold unoT
            split <;> simp
          refine ⟨_, rfl, st, rfl, ⟨_, SqL.of (s8 _ _ est2)⟩, ?_⟩
          refine for_it (walk_list (xs := (rgL M.outs.length).map V.int)) (fun o σ H' => ∃ (v9 : Option V), σ = [some (.ref m), some (.int (i : Int)), some (.ref st), some (.ref kr), some (.int (0 + (t : Int))), some (.ref ra), some (.ref af), some (.ref rw_), some (.int (0 + (j : Int))), v9] ∧ Same H2 H' ∧ Kq rw_ H6 H' ∧ H' rw_ = some (.lst ((rowP M KS (i : Int) j ++ (unoT M KS (i : Int) j ++ ((rgL M.outs.length).take o).flatMap (oth M KS (i : Int) j))).map V.int)) ∧ (((rgL M.outs.length).take o).flatMap (oth M KS (i : Int) j)).length ≤ 2 * o)
            ⟨_, rfl, s8, k8, by rw [List.take_zero, List.flatMap_nil, List.append_nil]; exact e8, Nat.le_refl _⟩ (fun o σ H' _ ⟨_, _, s, _⟩ => SqL.of (s _ _ est2)) ?_ ?_
          · rintro o y σ H9x H9 ho ⟨v9, rfl, s9, k9, e9, l9⟩ ⟨rfl, hy⟩
            obtain ⟨y, hy', rfl⟩ := ofV hy
            obtain ⟨rfl, hon⟩ := rat hy'
            have yr : Rg M (o : Int) := ⟨by omega, by omega⟩
            have s29 := s2.trans s9
            refine ⟨_, rfl, .inr (.inl ⟨m, _, 0, _, rfl, rfl, SqT.of (s29 _ _ hM.top), rfl, ?_⟩)⟩
            refine ⟨_, rfl, .inr (.inl ⟨r, _, _, _, rfl, rfl, rd_t (rd_same s29 hM.rs), atI_get? (by omega) (by rw [iz]; exact eR), ?_⟩)⟩
            refine ⟨rfl, _, rfl, ?_⟩
            have tk : ((rgL M.outs.length).take (o + 1)).flatMap (oth M KS (i : Int) j) = ((rgL M.outs.length).take o).flatMap (oth M KS (i : Int) j) ++ oth M KS (i : Int) j (o : Int) := by
              rw [take_more hy', List.flatMap_append, List.flatMap_singleton]
            by_cases r2 : M.rank (j : Int) = 2
            · refine ifDT (decide_eq_true (by rw [r2])) ?_
              refine ⟨_, rfl, .inl ⟨rfl, _, SqL.of e9⟩, _, rfl, _, rfl, _, rfl, _, rfl, _, rfl, (by show 2 ≤ sizeLine; decide), fun d hd => ?_⟩
              have s10 := same_upd (o := .lst [.int (i : Int), .int (o : Int)]) (Same.refl H9) hd
              have e10 : (upd H9 d (.lst [.int (i : Int), .int (o : Int)])) d = some (.lst (([(i : Int), (o : Int)] : List Int).map V.int)) := upd_same
              generalize upd H9 d (.lst [.int (i : Int), .int (o : Int)]) = H10 at *
              have kr1 : KR M (Rg M) j [(i : Int), (o : Int)] := ⟨il, by rw [r2]; rfl, fun k hk => by
                rcases List.mem_cons.1 hk with z | z
                · rw [z]; exact xr
                · rw [List.mem_singleton.1 z]; exact yr⟩
              have kr2 : KR M (Rg M) j [(o : Int), (i : Int)] := ⟨il, by rw [r2]; rfl, fun k hk => by
                rcases List.mem_cons.1 hk with z | z
                · rw [z]; exact yr
                · rw [List.mem_singleton.1 z]; exact xr⟩
              refine ⟨m, d, M, _, _, rfl, hMA.same (s29.trans s10), g, by omega, by omega, SqL.of e10, kr1.dom, by rw [iy]; exact kr1.len, ?_⟩
              rw [iy]
              refine .inl ⟨kr, _, _, _, rfl, rfl, SqL.of ((s9.trans s10) _ _ ekr2), kat (KR.to_ g kr1), ?_⟩
              have ll : (rowP M KS (i : Int) j ++ (unoT M KS (i : Int) j ++ ((rgL M.outs.length).take o).flatMap (oth M KS (i : Int) j))).length ≤ 150 := by
                rw [List.length_append, List.length_append]
                omega
              refine ⟨rw_, _, _, rfl, rfl, s10 _ _ e9, Nat.lt_of_le_of_lt (by rw [sl]; exact ll) (by decide), ?_⟩
              have s11 := same_set (o := .lst ((rowP M KS (i : Int) j ++ (unoT M KS (i : Int) j ++ ((rgL M.outs.length).take o).flatMap (oth M KS (i : Int) j))).map V.int ++ [V.int (gS KS (M.to (j : Int) [(i : Int), (o : Int)]))])) (s9.trans s10) frw
              have k11 := (k9.trans (Kq.of s10)).trans (Kq.set (o := .lst ((rowP M KS (i : Int) j ++ (unoT M KS (i : Int) j ++ ((rgL M.outs.length).take o).flatMap (oth M KS (i : Int) j))).map V.int ++ [V.int (gS KS (M.to (j : Int) [(i : Int), (o : Int)]))])))
              have e11 : (upd H10 rw_ (.lst ((rowP M KS (i : Int) j ++ (unoT M KS (i : Int) j ++ ((rgL M.outs.length).take o).flatMap (oth M KS (i : Int) j))).map V.int ++ [V.int (gS KS (M.to (j : Int) [(i : Int), (o : Int)]))]))) rw_ = some (.lst ((rowP M KS (i : Int) j ++ (unoT M KS (i : Int) j ++ (((rgL M.outs.length).take o).flatMap (oth M KS (i : Int) j) ++ [gS KS (M.to (j : Int) [(i : Int), (o : Int)])]))).map V.int)) := by
                rw [upd_same]
                simp [List.append_assoc]
              generalize upd H10 rw_ (.lst ((rowP M KS (i : Int) j ++ (unoT M KS (i : Int) j ++ ((rgL M.outs.length).take o).flatMap (oth M KS (i : Int) j))).map V.int ++ [V.int (gS KS (M.to (j : Int) [(i : Int), (o : Int)]))])) = H11 at *
              refine ⟨_, rfl, .inl ⟨rfl, _, SqL.of e11⟩, _, rfl, _, rfl, _, rfl, _, rfl, _, rfl, (by show 2 ≤ sizeLine; decide), fun d2 hd2 => ?_⟩
              have s12 := same_upd (o := .lst [.int (o : Int), .int (i : Int)]) (Same.refl H11) hd2
              have e12 : (upd H11 d2 (.lst [.int (o : Int), .int (i : Int)])) d2 = some (.lst (([(o : Int), (i : Int)] : List Int).map V.int)) := upd_same
              generalize upd H11 d2 (.lst [.int (o : Int), .int (i : Int)]) = H12 at *
              refine ⟨m, d2, M, _, _, rfl, hMA.same (s2.trans (s11.trans s12)), g, by omega, by omega, SqL.of e12, kr2.dom, by exact kr2.len, ?_⟩
              refine .inl ⟨kr, _, _, _, rfl, rfl, SqL.of ((s11.trans s12) _ _ ekr2), kat (KR.to_ g kr2), ?_⟩
              refine ⟨rw_, _, _, rfl, rfl, s12 _ _ e11, Nat.lt_of_le_of_lt (by rw [sl, ← List.append_assoc (unoT M KS (i : Int) j), ← List.append_assoc (rowP M KS (i : Int) j), List.length_append]; exact Nat.add_le_add_right ll 1) (by decide), ?_⟩
              refine ⟨_, rfl, same_set (s11.trans s12) frw, (k11.trans (Kq.of s12)).trans Kq.set, ?_, ?_⟩
              · rw [upd_same, tk, show oth M KS (i : Int) j (o : Int) = [gS KS (M.to (j : Int) [(i : Int), (o : Int)])] ++ [gS KS (M.to (j : Int) [(o : Int), (i : Int)])] by unfold oth; rw [if_pos r2]; rfl]
                simp [List.append_assoc]
              · rw [tk, List.length_append, show (oth M KS (i : Int) j (o : Int)).length = 2 by unfold oth; rw [if_pos r2]; rfl]
                omega
            · refine ifDF (decide_eq_false fun z => r2 (by injection z)) ?_
              refine ⟨_, rfl, s9, k9, ?_, ?_⟩
              · rw [tk, show oth M KS (i : Int) j (o : Int) = [] by unfold oth; rw [if_neg r2], List.append_nil]
                exact e9
              · rw [tk, show oth M KS (i : Int) j (o : Int) = [] by unfold oth; rw [if_neg r2], List.append_nil]
                omega
          · rintro σ H9 ⟨v9, rfl, s9, k9, e9, l9⟩
            rw [sl, rl, show (rgL M.outs.length).take M.outs.length = rgL M.outs.length from List.take_of_length_le (by rw [rl]; exact Nat.le_refl _)] at e9 l9
            refine ⟨_, _, rfl, s9, k9, by rw [rowP_more]; exact e9, ?_⟩
            rw [rowP_more, List.length_append, symT, List.length_append]
            omega
        · rintro σ H7 ⟨v8, v9, rfl, s7, k7, e7, len7⟩
          have eRi : rowP M KS (i : Int) M.rs.length = R (i : Int) := congrFun hR (i : Int)
          have en : ((M.rs.length : Nat) : Int).toNat = M.rs.length := Int.toNat_natCast _
          rw [en, eRi] at e7 len7
          have er7 := k7 _ _ (n2 er5) (s6 _ _ er5)
          have ea7 := k7 _ _ (n2 ea5) (s6 _ _ ea5)
          have raw : rw_ ≠ ra := (n2 er5).symm
          have afw : rw_ ≠ af := (n2 ea5).symm
          have ll7 : LL H7 as D := LLk ll5 fun a u ha e => k7 _ _ (n2 e) (s6 _ _ e)
          have las : as.length ≤ i := by rw [ll5.1]; exact aft.dl
          have lav := aft.al
          dsimp only [gName]
          refine ifJoinS (fun σ' H' => ∃ (as' : List Addr) (D' : List (List Int)), σ' = [some (.ref m), some (.int (i : Int)), some (.ref st), some (.ref kr), some (.int (0 + (t : Int))), some (.ref ra), some (.ref af), some (.ref rw_), v8, v9] ∧ Same H2 H' ∧ H' ra = some (.lst (as'.map V.ref)) ∧ H' af = some (.lst (av.map V.int)) ∧ H' rw_ = some (.lst ((R (i : Int)).map V.int)) ∧ LL H' as' D' ∧ (∀ a ∈ as', a ≠ ra ∧ a ≠ af) ∧ Aft R (i + 1) D' (av ++ [((fi D' (R (i : Int)) : Nat) : Int)]) ∧ R (i : Int) ∈ D' ∧ ((∀ x y : Nat, x < M.outs.length → y < M.outs.length → R (x : Int) = R (y : Int) → x = y) → D' = (List.range (i + 1)).map fun x : Nat => R (x : Int))) (fun nx => ?_) ?_
          · refine ⟨_, rfl, _, rfl, notin_ll e7 er7 ll7 ⟨_, rfl, ?_⟩⟩
            by_cases c : R (i : Int) ∈ D
            · refine ifDF (by rw [decide_eq_true c]; rfl) ?_
              refine nx _ _ ⟨as, D, rfl, s7, er7, ea7, e7, ll7, ne5, aft.old c, c, fun inj => ?_⟩
              have := inj5 inj
              rw [this] at c
              obtain ⟨k, hk, e⟩ := List.mem_map.1 c
              have := List.mem_range.1 hk
              have := inj k i (by omega) hin e
              omega
            · refine ifDT (by rw [decide_eq_false c]; rfl) ?_
              refine ⟨_, rfl, .inl ⟨rfl, _, SqL.of er7⟩, _, rfl, ra, _, _, rfl, rfl, er7, Nat.lt_of_le_of_lt (by rw [List.length_map]; omega : _ ≤ 6) (by decide), ?_⟩
              have ne7 : ∀ {a : Addr} {u : HO}, a ≠ ra → H7 a = some u → (upd H7 ra (.lst (as.map V.ref ++ [.ref rw_]))) a = some u := fun {a u} n e => (upd_ne n).trans e
              refine nx _ _ ⟨as ++ [rw_], D ++ [R (i : Int)], rfl, same_set s7 hra, by rw [upd_same, List.map_append]; rfl, ne7 raf.symm ea7, ne7 raw e7, LLput (LLk ll7 fun a u ha e => ne7 (ne5 a ha).1 e) (ne7 raw e7), fun a ha => ?_, aft.new c, List.mem_append_right _ (List.mem_singleton.2 rfl), fun inj => ?_⟩
              · rcases List.mem_append.1 ha with z | z
                · exact ne5 a z
                · rw [List.mem_singleton.1 z]
                  exact ⟨raw, afw⟩
              · rw [inj5 inj, List.range_succ, List.map_append]
                rfl
          rintro σ H8 ⟨as', D', rfl, s8, er8, ea8, e8, ll8, ne8, aft8, mem8, inj8⟩
          refine ⟨_, rfl, .inl ⟨rfl, _, SqL.of ea8⟩, _, rfl, .inl ⟨rfl, _, SqL.of er8⟩, _, rfl, ?_⟩
          dsimp only [tNil]
          refine index_ll (K := K) e8 er8 ll8 mem8 ?_
          refine ⟨af, _, _, rfl, rfl, ea8, Nat.lt_of_le_of_lt (by rw [sl]; omega : _ ≤ 6) (by decide), ?_⟩
          have nef : ∀ {a : Addr} {u : HO} {o : HO}, a ≠ af → H8 a = some u → (upd H8 af o) a = some u := fun {a u o} n e => (upd_ne n).trans e
          exact ⟨_, _, _, _, as', D', _, rfl, same_set s8 haf2, nef raf er8, by rw [upd_same, List.map_append]; rfl, LLk ll8 fun a u ha e => nef (ne8 a ha).2 e, ne8, aft8, inj8⟩
      · rintro σ H5 ⟨v1, v7, v8, v9, as, D, av, rfl, s5, er5, ea5, ll5, ne5, aft, inj5⟩
        rw [sl, rl] at aft inj5
        have kk : KerT M (t + 1) av := aft.ker fun p q hp hq => by rw [← hR]; exact req p q hp hq
        refine ⟨_, rfl, _, _, _, _, _, _, _, af, av, rfl, s2.trans s5, s5 _ _ est2, ea5, kk, fun _ ds => ?_⟩
        have inj : ∀ x y : Nat, x < M.outs.length → y < M.outs.length → R (x : Int) = R (y : Int) → x = y := fun x y hx hy e => by
          rw [← hR] at e
          have := (req (x : Int) (y : Int) ⟨by omega, by omega⟩ ⟨by omega, by omega⟩).1 e
          rw [Int.toNat_natCast, Int.toNat_natCast] at this
          exact ds x y hx hy this
        exact Aft.all inj (Nat.le_refl _) aft (inj5 inj)
    · rintro σ H2 ⟨v1, v4, v5, v6, v7, v8, v9, kr, KS, rfl, s2, est2, ekr2, ker, fn⟩
      have eK := fn (by omega) disc
      subst eK
      refine ⟨_, rfl, st, _, rfl, .inl (SqL.of est2), ?_⟩
      rw [sl, rl]
      refine ⟨rfl, _, rfl, ?_⟩
      refine ifDF (decide_eq_false fun z => by
        have : ((M.outs.length : Nat) : Int) = 0 := by injection z
        omega) ?_
      refine ⟨_, rfl, kr, _, rfl, SqL.of ekr2, by rw [rl]; omega, fun ys p' pm so hp' => ?_⟩
      have s3 := same_upd (o := .lst (ys.map V.int)) (Same.refl H2) hp'
      have ey : ys = rgL M.outs.length := asc_rg (sorted_lt so (pm.nodup_iff.2 (rgL_nodup _))) fun k => by rw [pm.mem_iff, rgL_mem]
      refine ⟨_, rfl, eq_lists (SqL.of upd_same) (SqL.of (s3 _ _ est2)) ?_⟩
      rw [decide_eq_true ey]
      exact fin _ (s2.trans s3)
end
end K63

set_option Elab.async false
set_option linter.all false
set_option maxRecDepth 100000
set_option maxHeartbeats 4000000
namespace K63
open PySem PySem.Spec PyProof.Rows L2 Mz
/-! ### the least one of the least one -/
theorem LeastT.hom {M N : TM} {h : Int → Int} (H : Hom M N h) (inj : ∀ p q, Rg M p → Rg M q → h p = h q → p = q) (g : GoodT M) {t : List Int} {p : Int} (l : LeastT M t p) : LeastT N t (h p) := by
  refine ⟨H.tt l.1, fun u hu => ?_⟩
  obtain ⟨p', r', e⟩ := H.lift hu
  have := inj p' p (r'.reach.rg g) (l.1.reach.rg g) e
  subst this
  exact l.2 u r'
theorem wl_asym {u v : List Int} (h : wordLt u v = true) : wordLt v u = false := by
  cases e : wordLt v u with
  | false => rfl
  | true =>
    have := wl_tr h e
    rw [wl_irr] at this
    cases this
theorem hom_same {M N : TM} {h : Int → Int} (a : Mini0 M) (b : Mini0 N) (H : Hom M N h) (ex : ∀ p, Rg M p → ∃ t, LeastT M t p) : N = M := by
  obtain ⟨g, all, pt, asc⟩ := a
  obtain ⟨g', all', pt', asc'⟩ := b
  have nM : M.n = (M.outs.length : Int) := rfl
  have nN : N.n = (N.outs.length : Int) := rfl
  have inj : ∀ p q, Rg M p → Rg M q → h p = h q → p = q := pt _ (H.ker g all)
  have mono : ∀ p q, Rg M p → Rg M q → p < q → h p < h q := fun p q hp hq lt => by
    obtain ⟨t, ht⟩ := ex p hp
    obtain ⟨u, hu⟩ := ex q hq
    have w := asc p q t u hp hq lt ht hu
    have ht' := ht.hom H inj g
    have hu' := hu.hom H inj g
    rcases Int.lt_trichotomy (h p) (h q) with z | z | z
    · exact z
    · have := inj p q hp hq z
      omega
    · have := asc' (h q) (h p) u t (H.dom q (all q hq)) (H.dom p (all p hp)) z hu' ht'
      rw [wl_asym w] at this
      cases this
  have rg : ∀ {k : Int}, k ∈ rgL M.outs.length → Rg M k := fun {k} hk => rgL_mem.1 hk
  have em : (rgL M.outs.length).map h = rgL N.outs.length := by
    refine asc_rg ?_ fun k => ⟨fun hk => ?_, fun hk => ?_⟩
    · rw [List.pairwise_map]
      exact (rgL_asc _).imp_of_mem fun {x y} hx hy l => mono x y (rg hx) (rg hy) l
    · obtain ⟨p, hp, rfl⟩ := List.mem_map.1 hk
      exact H.dom p (all p (rg hp))
    · obtain ⟨p, rp, rfl⟩ := H.onto (all' k hk)
      exact List.mem_map.2 ⟨p, rgL_mem.2 (rp.rg g), rfl⟩
  have rl : ∀ n, (rgL n).length = n := fun n => by unfold rgL; rw [List.length_map, List.length_range]
  have len : N.outs.length = M.outs.length := by
    have := congrArg List.length em
    rw [List.length_map, rl, rl] at this
    exact this.symm
  have idh : ∀ p, Rg M p → h p = p := fun p hp => by
    obtain ⟨l, e⟩ := hp.of
    have at_ : ∀ n, p.toNat < n → (rgL n)[p.toNat]? = some p := fun n hn => by
      unfold rgL
      rw [List.getElem?_map, List.getElem?_range hn]
      exact congrArg some e
    have a1 := congrArg (fun z : List Int => z[p.toNat]?) em
    have a1 : ((rgL M.outs.length).map h)[p.toNat]? = (rgL N.outs.length)[p.toNat]? := a1
    rw [List.getElem?_map, at_ _ l, at_ _ (by omega)] at a1
    exact Option.some.inj a1
  have outs : N.outs = M.outs := by
    refine List.ext_getElem? fun i => ?_
    by_cases c : i < M.outs.length
    · have r : Rg M (i : Int) := ⟨by omega, by omega⟩
      have e := H.out _ (all _ r)
      rw [idh _ r] at e
      unfold outO at e
      rw [Int.toNat_natCast, List.getD_eq_getElem?_getD, List.getD_eq_getElem?_getD, List.getElem?_eq_getElem (by omega), List.getElem?_eq_getElem c] at e
      rw [List.getElem?_eq_getElem (by omega), List.getElem?_eq_getElem c]
      exact congrArg some e
    · rw [List.getElem?_eq_none (by omega), List.getElem?_eq_none (by omega)]
  have kinv : ∀ (n r : Nat), 0 < n → r ≤ 2 → ∀ i, i < n ^ r → ∃ ks : List Int, ks.length = r ∧ (∀ k ∈ ks, 0 ≤ k ∧ k < (n : Int)) ∧ (plc (n : Int) ks).toNat = i := fun n r n0 r2 i hi => by
    have : r = 0 ∨ r = 1 ∨ r = 2 := by omega
    rcases this with rfl | rfl | rfl
    · rw [Nat.pow_zero] at hi
      have i0 : i = 0 := by omega
      subst i0
      exact ⟨[], rfl, (fun k hk => by cases hk), rfl⟩
    · rw [Nat.pow_one] at hi
      refine ⟨[(i : Int)], rfl, fun k hk => ?_, ?_⟩
      · rw [List.mem_singleton.1 hk]
        exact ⟨by omega, by omega⟩
      · show ((0 : Int) * (n : Int) + (i : Int)).toNat = i
        rw [Int.zero_mul]
        omega
    · have e2 : n ^ 2 = n * n := by rw [Nat.pow_succ, Nat.pow_one]
      rw [e2] at hi
      refine ⟨[((i / n : Nat) : Int), ((i % n : Nat) : Int)], rfl, fun k hk => ?_, ?_⟩
      · have d := (Nat.div_lt_iff_lt_mul n0).2 hi
        have m := Nat.mod_lt i n0
        rcases List.mem_cons.1 hk with z | z
        · rw [z]
          exact ⟨Int.natCast_nonneg (i / n), Int.ofNat_lt.2 d⟩
        · rw [List.mem_singleton.1 z]
          exact ⟨Int.natCast_nonneg (i % n), Int.ofNat_lt.2 m⟩
      · show (((0 : Int) * (n : Int) + ((i / n : Nat) : Int)) * (n : Int) + ((i % n : Nat) : Int)).toNat = i
        rw [Int.zero_mul, Int.zero_add, ← Int.natCast_mul, ← Int.natCast_add, Int.toNat_natCast, Nat.mul_comm]
        exact Nat.div_add_mod i n
  have rules : N.rules = M.rules := by
    refine List.ext_getElem? fun s => ?_
    by_cases c : s < M.rs.length
    · have l1 : s < M.rules.length := by rw [g.rl]; exact c
      have l2 : s < N.rules.length := by rw [g'.rl, H.rs]; exact c
      rw [List.getElem?_eq_getElem l1, List.getElem?_eq_getElem l2]
      refine congrArg some ?_
      have eR := rank_at c
      obtain ⟨r0, r3⟩ := rank_rg g c
      have z1 := g.sz s _ _ eR (List.getElem?_eq_getElem l1)
      have z2 := g'.sz s _ _ (by rw [H.rs]; exact eR) (List.getElem?_eq_getElem l2)
      rw [len] at z2
      have ru1 : M.rule (s : Int) = M.rules[s] := by
        unfold TM.rule
        rw [Int.toNat_natCast, List.getD_eq_getElem?_getD, List.getElem?_eq_getElem l1]
        rfl
      have ru2 : N.rule (s : Int) = N.rules[s] := by
        unfold TM.rule
        rw [Int.toNat_natCast, List.getD_eq_getElem?_getD, List.getElem?_eq_getElem l2]
        rfl
      refine List.ext_getElem? fun i => ?_
      by_cases ci : i < M.outs.length ^ (M.rank (s : Int)).toNat
      · obtain ⟨ks, lk, bk, ek⟩ := kinv M.outs.length _ (by have := g.n1; omega) (by omega) i ci
        have kr : KR M (Reach M) s ks := ⟨c, lk, fun k hk => all k (bk k hk)⟩
        have e := H.to s ks kr
        have mk : ks.map h = ks := by
          rw [List.map_congr_left (g := id) fun k hk => idh k (bk k hk), List.map_id]
        rw [mk, idh _ (KR.to_ g ⟨c, lk, fun k hk => bk k hk⟩)] at e
        unfold TM.to at e
        rw [ru1, ru2, nM, nN, len, ek, List.getD_eq_getElem?_getD, List.getD_eq_getElem?_getD, List.getElem?_eq_getElem (by omega), List.getElem?_eq_getElem (by omega)] at e
        rw [List.getElem?_eq_getElem (by omega), List.getElem?_eq_getElem (by omega)]
        exact congrArg some e
      · rw [List.getElem?_eq_none (by omega), List.getElem?_eq_none (by omega)]
    · have l1 := g.rl
      have l2 := g'.rl
      rw [H.rs] at l2
      rw [List.getElem?_eq_none (by omega), List.getElem?_eq_none (by omega)]
  cases M
  cases N
  have r := H.rs
  have o := H.os
  simp only at rules outs r o
  rw [rules, outs, r, o]
/-! ### as data -/
def dTM (M : TM) : PyData := .tuple [dRow M.rs, .int M.os, .tuple (M.rules.map dRow), dRow M.outs]
theorem lay_tm (M : TM) : PyData.canLay0 (dTM M) = true := by
  have := lay_rows M.rules
  have := lay_ints M.outs
  have := lay_ints M.rs
  unfold dTM dRow at *
  simp [PyData.canLayAll0, PyData.canLay0, *]
theorem dep_row (w : List Int) : PyData.depth (dRow w) ≤ 2 := by
  have h := depthI w
  unfold dRow
  simp only [PyData.depth]
  omega
theorem shaped_tm (M : TM) : SeqAt.shaped (dTM M) = true := by
  have h1 := depth_rows M.rules
  have h2 := dep_row M.outs
  have h4 := dep_row M.rs
  have h3 : PyData.depth (dTM M) ≤ 64 := by
    unfold dTM
    simp only [PyData.depthAll, PyData.depth]
    omega
  show (PyData.canLay0 (dTM M) && decide (PyData.depth (dTM M) ≤ 64)) = true
  rw [lay_tm, decide_eq_true h3]
  rfl
theorem dp_tm {K : PySem.W.Frag} {H : Hp} {m : Addr} {M : TM} (h : TMA H m M) : Dp K H (.ref m) (dTM M) := by
  obtain ⟨r, ru, ou, qs, hM⟩ := h
  exact .tup (SqT.of hM.top) (.cons (.tup (rd_t hM.rs) (dp_ints M.rs)) (.cons (.int _) (.cons (.tup (SqT.of hM.ru) (dp_rows qs M.rules hM.len hM.row)) (.cons (.tup (SqT.of hM.ou) (dp_ints M.outs)) .nil))))
theorem eq_tm {K : PySem.W.Frag} {H : Hp} {a b : Addr} {M : TM} {Q : VK} (h1 : TMA H a M) (h2 : TMA H b M) (q : Q (.bl true) H) : rEqD K (.ref a) (.ref b) H Q :=
  ⟨_, _, dp_tm h1, dp_tm h2, shaped_tm M, shaped_tm M, by rw [SeqAt.eqv_refl _ (lay_tm M)]; exact q⟩
def dTop (rs : List Int) (o : Int) : PyData := .tuple [dRow rs, .int o]
theorem lay_top (rs : List Int) (o : Int) : PyData.canLay0 (dTop rs o) = true := by
  have := lay_ints rs
  unfold dTop dRow at *
  simp [PyData.canLayAll0, PyData.canLay0, *]
theorem shaped_top (rs : List Int) (o : Int) : SeqAt.shaped (dTop rs o) = true := by
  have h4 := dep_row rs
  have h3 : PyData.depth (dTop rs o) ≤ 64 := by
    unfold dTop
    simp only [PyData.depthAll, PyData.depth]
    omega
  show (PyData.canLay0 (dTop rs o) && decide (PyData.depth (dTop rs o) ≤ 64)) = true
  rw [lay_top, decide_eq_true h3]
  rfl
theorem ne_top {K : PySem.W.Frag} {H : Hp} {a b r r' : Addr} {rs : List Int} {o : Int} {Q : VK} (ha : H a = some (.tup [.ref r, .int o])) (hb : H b = some (.tup [.ref r', .int o])) (h1 : SqT K H r (rs.map V.int)) (h2 : SqT K H r' (rs.map V.int)) (q : Q (.bl false) H) : rNeD K (.ref a) (.ref b) H Q :=
  ⟨dTop rs o, dTop rs o, .tup (SqT.of ha) (.cons (.tup h1 (dp_ints rs)) (.cons (.int _) .nil)), .tup (SqT.of hb) (.cons (.tup h2 (dp_ints rs)) (.cons (.int _) .nil)), shaped_top rs o, shaped_top rs o, by rw [SeqAt.eqv_refl _ (lay_top rs o)]; exact q⟩
theorem ne_ints {K : PySem.W.Frag} {H : Hp} {a b : Addr} {w : List Int} {Q : VK} (ha : SqL K H a (w.map V.int)) (hb : SqL K H b (w.map V.int)) (q : Q (.bl false) H) : rNeD K (.ref a) (.ref b) H Q :=
  ⟨dLst w, dLst w, .lst ha (dp_ints w), .lst hb (dp_ints w), shaped_l w, shaped_l w, by rw [eqv_l, decide_eq_true rfl]; exact q⟩
/-- a >= b of data -/
def rGeD (K : PySem.W.Frag) : R2 := fun x y H Q => ∃ d e, Dp K H x d ∧ Dp K H y e ∧ W.alike d e = true ∧ d ≠ .none ∧ min d.depth e.depth ≤ 64 ∧ Q (.bl (!W.dataLt d e)) H
theorem op_geD {X : Cx} (hu : X.A.units + 64 < cLine) : OpR X (compareOp .GtE) (rGeD X.K) := by
  rintro pins s σ H x y v u Q I rx ry ⟨d, e, hd, he, al, hn, dep, q⟩
  obtain ⟨as, r1⟩ := Dp.reads I d x v hd rx
  obtain ⟨bs, r2⟩ := Dp.reads I e y u he ry
  exact PySem.W.ge_data r1 r2 al hn (by omega) ⟨.bl _, H, I, rfl, q⟩
/-! ### tables -/
theorem tabS_kp {Pt P2 : Addr} {q : Str} {H H' : Hp} (n : P2 ≠ Pt) (hT : GxR.TabG H Pt) (k : Kp Pt H H') (h : LamX.TabS H P2 q) : LamX.TabS H' P2 q := by
  obtain ⟨ps, h1, h2, h3⟩ := h
  refine ⟨ps, k.keep _ _ n h1, h2, fun pos cv hc => ?_⟩
  obtain ⟨c0, e1, e2⟩ := h3 pos cv hc
  exact ⟨c0, e1, k.keep _ _ (fun z => by
    obtain ⟨qs, f1, _⟩ := hT
    rw [z, f1] at e2
    exact LamX.codeO_ne _ (Option.some.inj e2).symm) e2⟩
end K63

set_option Elab.async false
set_option linter.all false
set_option maxRecDepth 100000
set_option maxHeartbeats 4000000
namespace K63
open PySem PySem.Spec PyProof.Rows L2 Mz
theorem dataLt_li (u v : List Int) (e : u.length = v.length) : PySem.W.dataLt (.list (u.map PyData.int)) (.list (v.map PyData.int)) = HT.lexLt u v := by
  rw [PySem.W.dataLt_list]
  have := lex_ints u v [] e
  rw [List.append_nil, List.append_nil] at this
  exact this
theorem alike_li (u v : List Int) : PySem.W.alike (.list (u.map PyData.int)) (.list (v.map PyData.int)) = true := alike_ints u v
def spLaw (K : PySem.W.Frag) (P1 P2 P3 : Addr) : Sp := fun vs H Q _ => ∃ (a : Addr) (ns : List Int), vs = [.ref a] ∧ SqL K H a (ns.map V.int) ∧ ns.length ≤ 63 ∧ GxR.TabG H P1 ∧ LamX.TabS H P2 Q2 ∧ LamX.TabS H P3 Q3 ∧ ∀ H', Q (.bl true) H'
section
variable {P : Program} {w : World} {K : PySem.W.Frag} {mg : Str → Option Value} {base : Heap} {A : Ads} {c1 c2 c3 P1 P2 P3 : Addr}
theorem ok_law (T : Txt K mg A) (n12 : P1 ≠ P2) (n13 : P1 ≠ P3) (n23 : P2 ≠ P3) (TB1 : GxR.TabB base mg c1 P1) (hc1 : A.d_are_below.code = .ref c1) (TB2 : LamX.TabB base mg c2 P2) (hc2 : A.d_trees_up_to.code = .ref c2) (TB3 : LamX.TabB base mg c3 P3) (hc3 : A.d_least_tree_machine.code = .ref c3) : FnOk P w K mg base CX0 7 A.a_law A.d_law ["script"] (spLaw K P1 P2 P3) := by
  have G_law_numbers : FnOk P w K mg base CX0 1 A.a_law_numbers A.d_law_numbers ["script", "many"] (spNumbers K) := ok_numbers T
  have G_law_ranks : FnOk P w K mg base CX0 1 A.a_law_ranks A.d_law_ranks ["number"] spLawRanks := ok_lawranks T
  have G_law_tree_machine : FnOk P w K mg base CX0 1 A.a_law_tree_machine A.d_law_tree_machine ["numbers", "ranks", "outs", "states"] (spTreeMachine K) := ok_treemachine T
  have G_law_doubled := ok_doubled (P := P) (w := w) (base := base) T
  have G_least_tree_machine := ok_least (P := P) (w := w) (base := base) T n23 TB2 hc2 TB3 hc3
  have G_check_tree_machine : FnOk P w K mg base (L2N.CX P w) 3 A.a_check_tree_machine A.d_check_tree_machine ["machine"] (spCheckM K A P1) := ok_checkm T TB1 hc1
  have G_law_differ := ok_differ (P := P) (w := w) (base := base) T
  have G_law_parted := ok_parted (P := P) (w := w) (base := base) T
  have G_law_reached := ok_reached (P := P) (w := w) (base := base) T
  have G_first_trees := ok_first (P := P) (w := w) (base := base) T TB2 hc2
  refine T.F_law.ok sc_law (fun vs H Q E h => ?_) (fun cdv Ar outer s H vs Q E hr h => ?_)
  · obtain ⟨_, _, rfl, _⟩ := h
    rfl
  · obtain ⟨a, ns, rfl, hS, l63, hT1, hT2, hT3, fin⟩ := h
    have hr_law_numbers : Room 1 _ := hr.mono (by decide)
    have hr_law_ranks : Room 1 _ := hr.mono (by decide)
    have hr_law_tree_machine : Room 1 _ := hr.mono (by decide)
    have hr_law_doubled : Room 2 _ := hr.mono (by decide)
    have hr_least_tree_machine : Room 6 _ := hr
    have hr_check_tree_machine : Room 3 _ := hr.mono (by decide)
    have hr_law_differ : Room 3 _ := hr.mono (by decide)
    have hr_law_parted : Room 2 _ := hr.mono (by decide)
    have hr_law_reached : Room 2 _ := hr.mono (by decide)
    have hr_first_trees : Room 6 _ := hr
    refine ⟨_, (pss_cons (ps_set (i := 1) sc_law.nd rfl (Or.inl rfl) (pe_call G_law_numbers hr_law_numbers (by rfl) T.g_law_numbers T.F_law_numbers.kp T.b_law_numbers .nil pass0 (pa_cons (pv 0) (pa_cons pe_int pa_nil))))
      (pss_cons (ps_set (i := 2) sc_law.nd rfl (Or.inl rfl) (pe_call G_law_ranks hr_law_ranks (by rfl) T.g_law_ranks T.F_law_ranks.kp T.b_law_ranks .nil pass0 (pa_cons (pe_ix (r := rIx K) ix_seq (pv 1) pe_int (fun _ _ => rfl)) pa_nil)))
      (pss_cons (ps_set (i := 3) sc_law.nd rfl (Or.inl rfl) (pe_call G_law_tree_machine hr_law_tree_machine (by rfl) T.g_law_tree_machine T.F_law_tree_machine.kp T.b_law_tree_machine .nil pass0 (pa_cons (pe_slice sl_list (pv 1) (po_some pe_int) po_none) (pa_cons (pv 2) (pa_cons (pe_op op_add pe_int (pe_op op_mod (pe_ix (r := rIx K) ix_seq (pv 1) pe_int (fun _ _ => rfl)) pe_int)) (pa_cons (pe_op op_add pe_int (pe_op op_mod (pe_ix (r := rIx K) ix_seq (pv 1) pe_int (fun _ _ => rfl)) pe_int)) pa_nil))))))
      (pss_cons (ps_if (pt_cmpR op_gt (pe_op op_mod (pe_ix (r := rIx K) ix_seq (pv 1) pe_int (fun _ _ => rfl)) pe_int) pe_int (nomark _)) (pss_one (ps_set (i := 3) sc_law.nd rfl (Or.inl rfl) (pe_call G_law_doubled hr_law_doubled (by rfl) T.g_law_doubled T.F_law_doubled.kp T.b_law_doubled .nil pass0 (pa_cons (pv 3) (pa_cons (pe_slice sl_list (pv 1) (po_some pe_int) po_none) pa_nil))))) pss_nil)
      (pss_cons (ps_set (i := 4) sc_law.nd rfl (Or.inl rfl) (pe_call G_least_tree_machine hr_least_tree_machine (by rfl) T.g_least_tree_machine T.F_least_tree_machine.kp T.b_least_tree_machine .nil pass0 (pa_cons (pv 3) pa_nil)))
      (pss_cons (ps_if (PW.pt (pw_or (pt_not (pt_val (pe_callB call_isi (by rfl) T.n_isinstance (by decide +kernel) (pa_cons (pv 4) (pa_cons (pe_bltn (v := .ty "tuple") (u := .type "tuple") (by rfl) T.n_tuple (by decide +kernel) rfl) pa_nil))))) (pw_or (pt_cmpR op_ne (pe_callB call_len_seq (by rfl) T.n_len PySem.boot_len (pa_cons (pv 4) pa_nil)) pe_int (nomark _)) (pw_or1 (pt_cmpR op_notN (pe_call G_check_tree_machine hr_check_tree_machine (by rfl) T.g_check_tree_machine T.F_check_tree_machine.kp T.b_check_tree_machine .nil passN (pa_cons (pv 4) pa_nil)) pe_non (nomark _)))))) (pss_one (ps_ret pe_bl)) pss_nil)
      (pss_cons (ps_if (PW.pt (pw_or (pt_cmpR (op_neD hr.units) (pe_slice sl_tupA (pv 4) po_none (po_some pe_int)) (pe_slice sl_tupA (pv 3) po_none (po_some pe_int)) (nomark _)) (pw_or (pt_val (pe_call G_law_differ hr_law_differ (by rfl) T.g_law_differ T.F_law_differ.kp T.b_law_differ .nil pass0 (pa_cons (pv 3) (pa_cons (pv 4) pa_nil)))) (pw_or1 (pt_not (pt_val (pe_call G_law_parted hr_law_parted (by rfl) T.g_law_parted T.F_law_parted.kp T.b_law_parted .nil pass0 (pa_cons (pv 4) pa_nil)))))))) (pss_one (ps_ret pe_bl)) pss_nil)
      (pss_cons (ps_if (pt_cmpR (r := rNeD K) (op_neD hr.units) (pe_call G_law_reached hr_law_reached (by rfl) T.g_law_reached T.F_law_reached.kp T.b_law_reached .nil pass0 (pa_cons (pv 4) pa_nil)) (pe_lc (own := [("state", 9)]) (g := (gName 9)) (tt := tYes) rfl sc_law.nd (pi_range1 (by rfl) T.n_range (pa_cons (pe_callB call_len_seq (by rfl) T.n_len PySem.boot_len (pa_cons (pe_ix (r := rIx K) ix_seq (pv 4) pe_int (fun _ _ => rfl)) pa_nil)) pa_nil)) (blkOk_by (N := ["script", "numbers", "ranks", "machine", "small", "trees", "k", "one", "two", "state"]) (sc := defScope s_law) (by decide +kernel)) (fun _ _ _ _ _ => (pg_name (i := 9) sc_law.nd rfl (Or.inl rfl))) (fun _ _ _ _ _ => pts_nil) (fun _ _ _ _ _ => (pv 9))) (nomark _)) (pss_one (ps_ret pe_bl)) pss_nil)
      (pss_cons (ps_set (i := 5) sc_law.nd rfl (Or.inl rfl) (pe_call G_first_trees hr_first_trees (by rfl) T.g_first_trees T.F_first_trees.kp T.b_first_trees .nil pass0 (pa_cons (pv 4) pa_nil)))
      (pss_cons (ps_for PassesOwn.never rfl (pi_range2 (by rfl) T.n_range (pa_cons pe_int (pa_cons (pe_callB call_len_seq (by rfl) T.n_len PySem.boot_len (pa_cons (pv 5) pa_nil)) pa_nil))) (pg_name (i := 6) sc_law.nd rfl (Or.inl rfl))
        (pss_cons (ps_set (i := 7) sc_law.nd rfl (Or.inl rfl) (pe_ix (r := rIx K) ix_seq (pv 5) (pe_op op_sub (pv 6) pe_int) (fun _ _ => rfl)))
          (pss_cons (ps_set (i := 8) sc_law.nd rfl (Or.inl rfl) (pe_ix (r := rIx K) ix_seq (pv 5) (pv 6) (fun _ _ => rfl)))
          (pss_one (ps_if (PW.pt (pw_or (pt_cmpR op_gt (pe_callB call_len_seq (by rfl) T.n_len PySem.boot_len (pa_cons (pv 7) pa_nil)) (pe_callB call_len_seq (by rfl) T.n_len PySem.boot_len (pa_cons (pv 8) pa_nil)) (nomark _)) (pw_or1 (PW.pt (pw_and (pt_cmpR op_eq (pe_callB call_len_seq (by rfl) T.n_len PySem.boot_len (pa_cons (pv 7) pa_nil)) (pe_callB call_len_seq (by rfl) T.n_len PySem.boot_len (pa_cons (pv 8) pa_nil)) (nomark _)) (pw_and1 (pt_cmpR (op_geD hr.units) (pv 7) (pv 8) (nomark _)))))))) (pss_one (ps_ret pe_bl)) pss_nil)))))
      (pss_one (ps_ret (pe_cmpR (op_eqD hr.units) (pe_call G_least_tree_machine hr_least_tree_machine (by rfl) T.g_least_tree_machine T.F_least_tree_machine.kp T.b_least_tree_machine .nil pass0 (pa_cons (pv 4) pa_nil)) (pv 4) (nomark _)))))))))))))), ?_⟩
    refine ⟨_, rfl, a, ns, 190, rfl, hS, l63, by decide, by decide, fun ms H1 p hN s1 hp0 hp => ?_⟩
    have ml : ms.length = 190 := by have := hN.len; omega
    have at_ : ∀ i : Nat, i < 190 → ∃ z, ms[i]? = some z ∧ 0 ≤ z := fun i hi =>
      ⟨ms[i], List.getElem?_eq_getElem (by omega), (hN.ok _ (List.getElem_mem _)).1⟩
    obtain ⟨z0, hz0, p0⟩ := at_ 0 (by decide)
    obtain ⟨z1, hz1, p1⟩ := at_ 1 (by decide)
    obtain ⟨z2, hz2, p2⟩ := at_ 2 (by decide)
    obtain ⟨z3, hz3, p3⟩ := at_ 3 (by decide)
    have hL := SqL.of (K := K) hp
    refine ⟨_, rfl, .inl ⟨p, _, 0, _, rfl, rfl, hL, atI_get? (by decide) hz0, ?_⟩⟩
    refine ⟨z0, rfl, p0, fun rs r H2 hrs s2 _ ⟨ro, nd, hr2⟩ => ?_⟩
    have hp2 := s2 _ _ hp
    refine ⟨_, rfl, 10, rfl, p, _, rfl, SqL.of hp2, fun d hd => ?_⟩
    have cutd : ∀ n : Nat, n ≤ 190 → cutV (ms.map V.int) (some (n : Int)) none = (ms.drop n).map V.int := fun n hn => by
      rw [cut_drop (by omega) (by rw [List.length_map, ml]; omega), List.map_drop]
      rfl
    rw [show cutV (ms.map V.int) (some 10) none = (ms.drop 10).map V.int from cutd 10 (by decide)]
    have s3 := same_upd (o := .lst ((ms.drop 10).map V.int)) s2 hd
    have e3 : (upd H2 d (.lst ((ms.drop 10).map V.int))) d = some (.lst ((ms.drop 10).map V.int)) := upd_same
    have hr3 := same_upd (o := .lst ((ms.drop 10).map V.int)) (Same.refl H2) hd _ _ hr2
    generalize upd H2 d (.lst ((ms.drop 10).map V.int)) = H3 at *
    have hp3 := s3 _ _ hp
    refine ⟨_, rfl, _, rfl, .inl ⟨p, _, 1, _, rfl, rfl, SqL.of hp3, atI_get? (by decide) hz1, _, _, rfl, rfl, (by show (0 : Int) < 3; decide), _, _, rfl, rfl, ?_⟩⟩
    refine ⟨_, rfl, .inl ⟨p, _, 2, _, rfl, rfl, SqL.of hp3, atI_get? (by decide) hz2, _, _, rfl, rfl, (by show (0 : Int) < 5; decide), _, _, rfl, rfl, ?_⟩⟩
    have pos : ∀ n : Nat, n < 190 → Pos (ms.drop n) := fun n hn => ⟨by rw [List.length_drop, ml]; omega, fun z hz => (hN.ok z (List.mem_of_mem_drop hz)).1⟩
    refine ⟨d, r, ms.drop 10, rs, _, _, (1 + z2 % 5).toNat, rfl, by omega, SqL.of e3, pos 10 (by decide), .inr ⟨ro, hr3⟩, hrs, by omega, by omega, by omega, by omega, fun M H4 m g eM _ _ s4 hMA => ?_⟩
    have s14 : Same H H4 := s1.trans (s3.trans s4)
    have hp4 := s4 _ _ hp3
    dsimp only [gName]
    refine ifJoinS (fun σ H' => ∃ (m' : Addr) (M' : TM), σ = [some (.ref a), some (.ref p), some (.ref r), some (.ref m'), none, none, none, none, none, none] ∧ Same H H' ∧ TMA H' m' M' ∧ GoodT M') (fun nx => ?_) ?_
    · refine ⟨_, rfl, .inl ⟨p, _, 3, _, rfl, rfl, SqL.of hp4, atI_get? (by decide) hz3, ?_⟩⟩
      refine ⟨_, _, rfl, rfl, (by show (0 : Int) < 3; decide), _, _, rfl, rfl, _, rfl, ?_⟩
      by_cases c : 0 < z3 % 3
      · refine ifDT (decide_eq_true c) ?_
        refine ⟨_, rfl, _, rfl, 100, rfl, p, _, rfl, SqL.of hp4, fun d2 hd2 => ?_⟩
        rw [show cutV (ms.map V.int) (some 100) none = (ms.drop 100).map V.int from cutd 100 (by decide)]
        have s5 := same_upd (o := .lst ((ms.drop 100).map V.int)) (Same.refl H4) hd2
        have e5 : (upd H4 d2 (.lst ((ms.drop 100).map V.int))) d2 = some (.lst ((ms.drop 100).map V.int)) := upd_same
        generalize upd H4 d2 (.lst ((ms.drop 100).map V.int)) = H5 at *
        refine ⟨m, d2, M, _, rfl, hMA.same s5, g, SqL.of e5, pos 100 (by decide), fun H6 m' M' g' _ _ s6 hMA' => ?_⟩
        exact nx _ _ ⟨m', M', rfl, s14.trans (s5.trans s6), hMA', g'⟩
      · refine ifDF (decide_eq_false c) ?_
        exact nx _ _ ⟨m, M, rfl, s14, hMA, g⟩
    clear hp4 s14 hMA s4 g eM hp3 hr3 e3 s3
    rintro σ H5 ⟨m, M, rfl, s5, hMA, g⟩
    have t1 : GxR.TabG H5 P1 := let ⟨ps, q, r⟩ := hT1; ⟨ps, s5 _ _ q, r⟩
    have t2 := tabS_same hT2 s5
    have t3 := tabS_same hT3 s5
    refine ⟨_, rfl, m, M, rfl, hMA, g, t2, t3, fun H6 sm S mini kt6 hSA => ?_⟩
    obtain ⟨mini0, h, hom⟩ := mini
    obtain ⟨gS, allS, ptS, ascS⟩ := id mini0
    have hMA6 := (Kt.refl t2 t3).tma kt6 hMA
    have t16 : GxR.TabG H6 P1 := let ⟨ps, q, r⟩ := t1; ⟨ps, kt6.keep _ _ n12 n13 q, r⟩
    have n6 := gS.n6
    have n1 := gS.n1
    have o1 := gS.o1
    have o4 := gS.o4
    have kl : PySem.W.kitOne K (.type "tuple") (.type "tuple") = some true := if_pos (beq_self_eq_true _)
    obtain ⟨sr, sru, sou, sqs, hS⟩ := id hSA
    refine ⟨_, rfl, _, .ty "tuple", _, _, _, rfl, .ty _, .base (.tup hS.top), kl, _, rfl, ?_⟩
    refine ifDF rfl ?_
    refine ⟨_, rfl, sm, _, rfl, .inr (SqT.of hS.top), rfl, _, rfl, ?_⟩
    refine ifDF rfl ?_
    refine ⟨_, rfl, sm, S, rfl, hSA, by omega, by omega, t16, fun H7 k7 => ⟨fun _ => ?_, fun n => absurd gS n⟩⟩
    refine ⟨rfl, _, rfl, ?_⟩
    refine ifDF rfl ?_
    have hMA7 := k7.tma t16 hMA6
    have hSA7 := k7.tma t16 hSA
    have t27 := tabS_kp n12.symm t16 k7 kt6.t2
    have t37 := tabS_kp n13.symm t16 k7 kt6.t3
    clear hS sr sru sou sqs hMA6 hSA
    obtain ⟨sr, sru, sou, sqs, hS⟩ := id hSA7
    obtain ⟨mr, mru, mou, mqs, hM⟩ := id hMA7
    -- ranks, outs
    refine ⟨_, rfl, 2, rfl, sm, _, rfl, SqT.of hS.top, (fun z => absurd z (show ¬ (HT.sIx 4 0 none = 0 ∧ HT.sIx 4 4 (some 2) = 4) by decide)), fun _ q1 hq1 => ?_⟩
    have s8 := same_upd (o := .tup [.ref sr, .int S.os]) (Same.refl H7) hq1
    have e8 : (upd H7 q1 (.tup [.ref sr, .int S.os])) q1 = some (.tup [.ref sr, .int M.os]) := by rw [upd_same, hom.os]
    rw [show cutV [.ref sr, .int S.os, .ref sru, .ref sou] none (some 2) = [.ref sr, .int S.os] from rfl]
    generalize upd H7 q1 (.tup [.ref sr, .int S.os]) = H8 at *
    refine ⟨_, rfl, 2, rfl, m, _, rfl, SqT.of (s8 _ _ hM.top), (fun z => absurd z (show ¬ (HT.sIx 4 0 none = 0 ∧ HT.sIx 4 4 (some 2) = 4) by decide)), fun _ q2 hq2 => ?_⟩
    have s9 := same_upd (o := .tup [.ref mr, .int M.os]) (Same.refl H8) hq2
    have e9 : (upd H8 q2 (.tup [.ref mr, .int M.os])) q2 = some (.tup [.ref mr, .int M.os]) := upd_same
    rw [show cutV [.ref mr, .int M.os, .ref mru, .ref mou] none (some 2) = [.ref mr, .int M.os] from rfl]
    generalize upd H8 q2 (.tup [.ref mr, .int M.os]) = H9 at *
    have s79 := s8.trans s9
    refine ne_top (rs := M.rs) (s9 _ _ e8) e9 (by rw [← hom.rs]; exact rd_t (rd_same s79 hS.rs)) (rd_t (rd_same s79 hM.rs)) ⟨_, rfl, ifDF rfl ?_⟩
    refine ⟨_, rfl, _, rfl, m, sm, M, S, h, rfl, hMA7.same s79, hSA7.same s79, g, gS, hom, fun H10 s10 => ⟨_, rfl, ifDF rfl ?_⟩⟩
    have s710 := s79.trans s10
    refine ⟨_, rfl, sm, S, rfl, hSA7.same s710, gS, ptS, fun H11 s11 => ⟨_, rfl, ifDF rfl ?_⟩⟩
    have s711 := s710.trans s11
    have sl : ∀ {xs : List Int}, (xs.map V.int).length = xs.length := fun {xs} => List.length_map ..
    have rl : ∀ n, (rgL n).length = n := fun n => by unfold rgL; rw [List.length_map, List.length_range]
    refine ⟨_, rfl, sm, S, rfl, hSA7.same s711, gS, allS, fun H12 q s12 eq => ?_⟩
    have s712 := s711.trans s12
    refine ⟨_, rfl, .inr (.inl ⟨sm, _, 3, _, rfl, rfl, SqT.of (s712 _ _ hS.top), rfl, ?_⟩)⟩
    refine ⟨sou, _, rfl, .inr (SqT.of (s712 _ _ hS.ou)), ?_⟩
    rw [sl]
    refine ⟨S.outs.length, rfl, by omega, by omega, fun D hD => ?_⟩
    refine lc_range (fun t H' => H' = upd H12 D (.lst ((rgL t).map V.int))) rfl ?_ ?_
    · rintro t H3 ht rfl
      have ht : t < S.outs.length := ht
      refine ⟨rfl, ?_⟩
      refine ⟨_, rfl, _, upd_same, Nat.lt_of_le_of_lt (by rw [List.length_map, rl]; omega : _ ≤ 6) (by decide), ?_⟩
      rw [upd_upd]
      have : rgL (t + 1) = rgL t ++ [(0 : Int) + (t : Int)] := by
        unfold rgL
        rw [List.range_succ, List.map_append, Int.zero_add]
        rfl
      rw [this, List.map_append]
      rfl
    rintro H13 rfl
    rw [show ((S.outs.length : Nat) : Int).toNat = S.outs.length from Int.toNat_natCast _]
    have s13 := same_upd (o := .lst ((rgL S.outs.length).map V.int)) (Same.refl H12) hD
    have eD : (upd H12 D (.lst ((rgL S.outs.length).map V.int))) D = some (.lst ((rgL S.outs.length).map V.int)) := upd_same
    generalize upd H12 D (.lst ((rgL S.outs.length).map V.int)) = H13 at *
    refine ne_ints (SqL.of (s13 _ _ eq)) (SqL.of eD) ⟨_, rfl, ifDF rfl ?_⟩
    have s713 := s712.trans s13
    have hSA13 := hSA7.same s713
    have t213 := tabS_same t27 s713
    have t313 := tabS_same t37 s713
    refine ⟨_, rfl, sm, S, rfl, hSA13, gS, t213, fun H14 l F full k14 t214 tl nl el => ?_⟩
    have t314 : LamX.TabS H14 P3 Q3 := by
      obtain ⟨ps, h1, h2, h3⟩ := t313
      refine ⟨ps, k14.keep _ _ n23.symm h1, h2, fun pos cv hc => ?_⟩
      obtain ⟨c0, e1, e2⟩ := h3 pos cv hc
      exact ⟨c0, e1, k14.keep _ _ (fun z => by
        obtain ⟨qs, f1, _⟩ := t213
        rw [z, f1] at e2
        exact LamX.codeO_ne _ (Option.some.inj e2).symm) e2⟩
    have hSA14 := k14.tma (tabS_g t213) hSA13
    have lv : (valsF F S.outs.length).length = S.outs.length := by
      unfold valsF
      rw [List.length_map, List.length_range]
    have ndF := (List.nodup_append.1 full.1.nd).1
    have vF : ∀ p : Int, Rg S p → ∃ x ∈ F, x.1 = p ∧ atI (valsF F S.outs.length) p = some (V.ref x.2.1) := fun p hp => by
      obtain ⟨x, hx, e, tr⟩ := full.1.trf (full_all full (allS p hp))
      refine ⟨x, hx, e, ?_⟩
      have := atI_get? (f := fun v : V => v) (ns := valsF F S.outs.length) (i := p) (z := V.ref x.2.1) hp.1 (by
        unfold valsF
        rw [List.getElem?_map, List.getElem?_range hp.of.1]
        show some (((getF F ((p.toNat : Nat) : Int)).map fun x => V.ref x.2.1).getD V.non) = _
        rw [hp.of.2, ← e, getF_uniq ndF hx]
        rfl)
      simpa using this
    have nS : S.n = (S.outs.length : Int) := rfl
    refine ⟨_, rfl, l, _, rfl, .inl (SqL.of el), ?_⟩
    rw [lv]
    refine ⟨1, (S.outs.length : Int), rfl, ⟨by decide, by decide, by omega, by omega⟩, for_range (fun i σ H' => ∃ (v6 v7 v8 : Option V), σ = [some (.ref a), some (.ref p), some (.ref r), some (.ref m), some (.ref sm), some (.ref l), v6, v7, v8, none] ∧ H' = H14) ⟨none, none, none, rfl, rfl⟩ ?_ ?_⟩
    · rintro i σ H' hi ⟨v6, v7, v8, rfl, rfl⟩
      have hi : i < ((S.outs.length : Int) - 1).toNat := hi
      have r1 : Rg S (i : Int) := ⟨by omega, by omega⟩
      have r2 : Rg S (1 + (i : Int)) := ⟨by omega, by omega⟩
      obtain ⟨x, hx, ex, vx⟩ := vF _ r1
      obtain ⟨y, hy, ey, vy⟩ := vF _ r2
      have lx := full_leastT full hx
      have ly := full_leastT full hy
      rw [ex] at lx
      rw [ey] at ly
      have wl := ascS _ _ _ _ r1 r2 (by omega) lx ly
      have e1 : (1 : Int) + (i : Int) - 1 = (i : Int) := by omega
      have tx := SqL.of (K := K) (tl x hx)
      have ty := SqL.of (K := K) (tl y hy)
      refine ⟨_, rfl, _, rfl, _, _, rfl, rfl, .inl ⟨l, _, _, _, rfl, rfl, SqL.of el, by rw [e1]; exact vx, ?_⟩⟩
      refine ⟨_, rfl, _, rfl, .inl ⟨l, _, _, _, rfl, rfl, SqL.of el, vy, ?_⟩⟩
      refine ⟨_, rfl, x.2.1, _, rfl, .inl tx, _, rfl, y.2.1, _, rfl, .inl ty, _, _, rfl, rfl, _, rfl, ?_⟩
      rw [sl, sl]
      have notlt : ¬ ((y.2.2.length : Int) < (x.2.2.length : Int)) := fun z => by
        have : wordLt x.2.2 y.2.2 = false := wl_long (by omega)
        rw [this] at wl
        cases wl
      refine ifDF (decide_eq_false notlt) ?_
      refine ⟨_, rfl, x.2.1, _, rfl, .inl tx, _, rfl, y.2.1, _, rfl, .inl ty, rfl, _, rfl, ?_⟩
      rw [sl, sl]
      by_cases c : x.2.2.length = y.2.2.length
      · refine ifDT (decide_eq_true (by rw [c])) ?_
        refine ⟨_, rfl, _, rfl, .list (x.2.2.map PyData.int), .list (y.2.2.map PyData.int), .lst tx (dp_ints _), .lst ty (dp_ints _), alike_li _ _, (fun z => by cases z), ?_, ?_⟩
        · have h := Mz.depth_ints x.2.2
          simp [PyData.depth]
          omega
        · rw [dataLt_li _ _ c]
          have e : wordLt x.2.2 y.2.2 = HT.lexLt x.2.2 y.2.2 := if_pos c
          rw [← e, wl]
          refine ⟨_, rfl, ifDF rfl ?_⟩
          exact ⟨_, _, _, rfl, rfl⟩
      · refine ifDF (decide_eq_false (fun z => c (by injection z; omega))) ?_
        exact ⟨_, _, _, rfl, rfl⟩
    · rintro σ H' ⟨v6, v7, v8, rfl, rfl⟩
      refine ⟨_, rfl, sm, S, rfl, hSA14, gS, t214, t314, fun H15 s2 S2 mini2 kt hS2 => ?_⟩
      obtain ⟨m20, h2, hom2⟩ := mini2
      have hS15 := (Kt.refl t214 t314).tma kt hSA14
      have eS : S2 = S := hom_same mini0 m20 hom2 fun p hp => by
        obtain ⟨x, hx, ex, _⟩ := vF p hp
        have := full_leastT full hx
        rw [ex] at this
        exact ⟨_, this⟩
      subst eS
      exact ⟨_, rfl, eq_tm hS2 hS15 (fin _)⟩
end
end K63

set_option Elab.async false
set_option linter.all false
set_option maxRecDepth 100000
set_option maxHeartbeats 4000000
namespace K63
open PySem PySem.Spec PyProof.Rows L2 Mz
theorem all_mk {K : PySem.W.Frag} {h : Heap} {mg : Str → Option Value} {fa : Addr} (X : K.In h) (G : h.Ns mainGlobals mg) (hfa : mg "law" = some (.ref fa))
    {c_MaieuticError c_NotAllowed f_first_places f_are_below f_are_ranks f_check_tree_machine f_kids_of f_entry_of f_tree_order f_first_trees f_trees_up_to f_trees_over f_least_tree_machine f_met_states f_kept f_classes f_afters f_law_numbers f_law_ranks f_law_tree_machine f_law_rule f_law_reached f_law_kids f_law_pairs f_law_differ f_law_parted f_law_doubled f_law : Addr} {od0 an0 od1 an1 od2 an2 od3 an3 od4 an4 od5 an5 od6 an6 od7 an7 od8 an8 od9 an9 od10 an10 od11 an11 od12 an12 od13 an13 od14 an14 od15 an15 od16 an16 od17 an17 od18 an18 od19 an19 od20 an20 od21 an21 od22 an22 od23 an23 od24 an24 od25 an25 : Option Addr} {sl0 sl1 sl2 sl3 sl4 sl5 sl6 sl7 sl8 sl9 sl10 sl11 sl12 sl13 sl14 sl15 sl16 sl17 sl18 sl19 sl20 sl21 sl22 sl23 sl24 sl25 : Array (Option Value)}
    {oc0 kV0 dc0 pm0 cd0 ct0 oc1 kV1 dc1 pm1 ct1 oc2 kV2 dc2 pm2 cd2 ct2 oc3 kV3 dc3 pm3 cd3 ct3 oc4 kV4 dc4 pm4 cd4 ct4 oc5 kV5 dc5 pm5 cd5 ct5 oc6 kV6 dc6 pm6 cd6 ct6 oc7 kV7 dc7 pm7 cd7 ct7 oc8 kV8 dc8 pm8 ct8 oc9 kV9 dc9 pm9 cd9 ct9 oc10 kV10 dc10 pm10 ct10 oc11 kV11 dc11 pm11 cd11 ct11 oc12 kV12 dc12 pm12 cd12 ct12 oc13 kV13 dc13 pm13 cd13 ct13 oc14 kV14 dc14 pm14 cd14 ct14 oc15 kV15 dc15 pm15 cd15 ct15 oc16 kV16 dc16 pm16 cd16 ct16 oc17 kV17 dc17 pm17 cd17 ct17 oc18 kV18 dc18 pm18 cd18 ct18 oc19 kV19 dc19 pm19 cd19 ct19 oc20 kV20 dc20 pm20 cd20 ct20 oc21 kV21 dc21 pm21 cd21 ct21 oc22 kV22 dc22 pm22 cd22 ct22 oc23 kV23 dc23 pm23 cd23 ct23 oc24 kV24 dc24 pm24 cd24 ct24 oc25 kV25 dc25 pm25 cd25 ct25 vc0 vc1 vc2 vc3 vc4 : Value}
    {tc1 tp1 : Addr} {te1 : Value} {td1 : Option Addr} {tv1 : Array Value} {ts1 : Array (Option Value)}
    {tc8 tp8 : Addr} {te8 : Value} {td8 : Option Addr} {tv8 : Array Value} {ts8 : Array (Option Value)}
    {tc10 tp10 : Addr} {te10 : Value} {td10 : Option Addr} {tv10 : Array Value} {ts10 : Array (Option Value)}
    (r_MaieuticError : PySem.W.nsIn K mainGlobals "MaieuticError" = some (some (.ref c_MaieuticError)))
    (rx_MaieuticError : PySem.W.excIn K c_MaieuticError [.type "ValueError", .type "Exception", .type "BaseException", .type "object"] "ValueError.__new__" = true)
    (rk_MaieuticError : PySem.W.keepIn K (.ref c_MaieuticError) = true)
    (rb_MaieuticError : PySem.W.subIn K (.ref c_MaieuticError) (.type "BaseException") = some true)
    (rt_MaieuticError : PySem.W.typeIn K (.ref c_MaieuticError) = some (.type "type"))
    (rga_MaieuticError : PySem.W.findIn K (.ref c_MaieuticError) "__getattribute__" = some (some (.builtin "BaseException.__getattribute__")))
    (rgg_MaieuticError : PySem.W.findIn K (.ref c_MaieuticError) "__getattr__" = some none)
    (rh_MaieuticError : PySem.W.hasDictIn K c_MaieuticError = true)
    (rc_MaieuticError : PySem.W.findIn K (.ref c_MaieuticError) "__class__" = some (some (.builtin "object.__class__")))
    (rm_MaieuticError : PySem.W.mroIn K c_MaieuticError (.type "object") = some true)
    (r_NotAllowed : PySem.W.nsIn K mainGlobals "NotAllowed" = some (some (.ref c_NotAllowed)))
    (rx_NotAllowed : PySem.W.excIn K c_NotAllowed [.type "ValueError", .type "Exception", .type "BaseException", .type "object"] "ValueError.__new__" = true)
    (rk_NotAllowed : PySem.W.keepIn K (.ref c_NotAllowed) = true)
    (rb_NotAllowed : PySem.W.subIn K (.ref c_NotAllowed) (.type "BaseException") = some true)
    (rt_NotAllowed : PySem.W.typeIn K (.ref c_NotAllowed) = some (.type "type"))
    (rga_NotAllowed : PySem.W.findIn K (.ref c_NotAllowed) "__getattribute__" = some (some (.builtin "BaseException.__getattribute__")))
    (rgg_NotAllowed : PySem.W.findIn K (.ref c_NotAllowed) "__getattr__" = some none)
    (rh_NotAllowed : PySem.W.hasDictIn K c_NotAllowed = true)
    (rc_NotAllowed : PySem.W.findIn K (.ref c_NotAllowed) "__class__" = some (some (.builtin "object.__class__")))
    (rm_NotAllowed : PySem.W.mroIn K c_NotAllowed (.type "object") = some true)
    (ra1 : PySem.W.specialIn K (.builtin "object.__class__") "__get__" = some (some (.builtin "getset_descriptor.__get__")))
    (ra2 : PySem.W.takesIn K (.builtin "object.__class__") = some true)
    (rsu_MaieuticError_MaieuticError : PySem.W.subIn K (.ref c_MaieuticError) (.ref c_MaieuticError) = some true)
    (rsu_MaieuticError_NotAllowed : PySem.W.subIn K (.ref c_MaieuticError) (.ref c_NotAllowed) = some false)
    (rsu_NotAllowed_MaieuticError : PySem.W.subIn K (.ref c_NotAllowed) (.ref c_MaieuticError) = some true)
    (rsu_NotAllowed_NotAllowed : PySem.W.subIn K (.ref c_NotAllowed) (.ref c_NotAllowed) = some true)
    (q_first_places : PySem.W.nsIn K mainGlobals "first_places" = some (some (.ref f_first_places)))
    (l_first_places : K.lookup f_first_places = some ⟨oc0, od0, .func (PySem.W.fnOf "first_places" "first_places" (defArgs s_first_places) (defBody s_first_places) (defScope s_first_places) .none kV0 dc0 pm0 an0 cd0 ct0), sl0⟩)
    (cc_first_places : PySem.W.codeIn K cd0 "first_places" = true)
    (kk_first_places : PySem.W.keepIn K (.ref f_first_places) = true)
    (q_are_below : PySem.W.nsIn K mainGlobals "are_below" = some (some (.ref f_are_below)))
    (l_are_below : K.lookup f_are_below = some ⟨oc1, od1, .func (PySem.W.fnOf "are_below" "are_below" (defArgs s_are_below) (defBody s_are_below) (defScope s_are_below) .none kV1 dc1 pm1 an1 (.ref tc1) ct1), sl1⟩)
    (cc_are_below : PySem.W.codeIn K (.ref tc1) "are_below" = true)
    (tk_are_below : K.lookup tc1 = some ⟨te1, td1, .fields tv1, ts1⟩)
    (tv_are_below : (tv1[11]? : Option Value) = some (.ref tp1))
    (tn_are_below : K.lookup tp1 = none)
    (kk_are_below : PySem.W.keepIn K (.ref f_are_below) = true)
    (q_are_ranks : PySem.W.nsIn K mainGlobals "are_ranks" = some (some (.ref f_are_ranks)))
    (l_are_ranks : K.lookup f_are_ranks = some ⟨oc2, od2, .func (PySem.W.fnOf "are_ranks" "are_ranks" (defArgs s_are_ranks) (defBody s_are_ranks) (defScope s_are_ranks) .none kV2 dc2 pm2 an2 cd2 ct2), sl2⟩)
    (cc_are_ranks : PySem.W.codeIn K cd2 "are_ranks" = true)
    (kk_are_ranks : PySem.W.keepIn K (.ref f_are_ranks) = true)
    (q_check_tree_machine : PySem.W.nsIn K mainGlobals "check_tree_machine" = some (some (.ref f_check_tree_machine)))
    (l_check_tree_machine : K.lookup f_check_tree_machine = some ⟨oc3, od3, .func (PySem.W.fnOf "check_tree_machine" "check_tree_machine" (defArgs s_check_tree_machine) (defBody s_check_tree_machine) (defScope s_check_tree_machine) .none kV3 dc3 pm3 an3 cd3 ct3), sl3⟩)
    (cc_check_tree_machine : PySem.W.codeIn K cd3 "check_tree_machine" = true)
    (kk_check_tree_machine : PySem.W.keepIn K (.ref f_check_tree_machine) = true)
    (q_kids_of : PySem.W.nsIn K mainGlobals "kids_of" = some (some (.ref f_kids_of)))
    (l_kids_of : K.lookup f_kids_of = some ⟨oc4, od4, .func (PySem.W.fnOf "kids_of" "kids_of" (defArgs s_kids_of) (defBody s_kids_of) (defScope s_kids_of) .none kV4 dc4 pm4 an4 cd4 ct4), sl4⟩)
    (cc_kids_of : PySem.W.codeIn K cd4 "kids_of" = true)
    (kk_kids_of : PySem.W.keepIn K (.ref f_kids_of) = true)
    (q_entry_of : PySem.W.nsIn K mainGlobals "entry_of" = some (some (.ref f_entry_of)))
    (l_entry_of : K.lookup f_entry_of = some ⟨oc5, od5, .func (PySem.W.fnOf "entry_of" "entry_of" (defArgs s_entry_of) (defBody s_entry_of) (defScope s_entry_of) .none kV5 dc5 pm5 an5 cd5 ct5), sl5⟩)
    (cc_entry_of : PySem.W.codeIn K cd5 "entry_of" = true)
    (kk_entry_of : PySem.W.keepIn K (.ref f_entry_of) = true)
    (q_tree_order : PySem.W.nsIn K mainGlobals "tree_order" = some (some (.ref f_tree_order)))
    (l_tree_order : K.lookup f_tree_order = some ⟨oc6, od6, .func (PySem.W.fnOf "tree_order" "tree_order" (defArgs s_tree_order) (defBody s_tree_order) (defScope s_tree_order) .none kV6 dc6 pm6 an6 cd6 ct6), sl6⟩)
    (cc_tree_order : PySem.W.codeIn K cd6 "tree_order" = true)
    (kk_tree_order : PySem.W.keepIn K (.ref f_tree_order) = true)
    (q_first_trees : PySem.W.nsIn K mainGlobals "first_trees" = some (some (.ref f_first_trees)))
    (l_first_trees : K.lookup f_first_trees = some ⟨oc7, od7, .func (PySem.W.fnOf "first_trees" "first_trees" (defArgs s_first_trees) (defBody s_first_trees) (defScope s_first_trees) .none kV7 dc7 pm7 an7 cd7 ct7), sl7⟩)
    (cc_first_trees : PySem.W.codeIn K cd7 "first_trees" = true)
    (kk_first_trees : PySem.W.keepIn K (.ref f_first_trees) = true)
    (q_trees_up_to : PySem.W.nsIn K mainGlobals "_trees_up_to" = some (some (.ref f_trees_up_to)))
    (l_trees_up_to : K.lookup f_trees_up_to = some ⟨oc8, od8, .func (PySem.W.fnOf "_trees_up_to" "_trees_up_to" (defArgs s_trees_up_to) (defBody s_trees_up_to) (defScope s_trees_up_to) .none kV8 dc8 pm8 an8 (.ref tc8) ct8), sl8⟩)
    (cc_trees_up_to : PySem.W.codeIn K (.ref tc8) "_trees_up_to" = true)
    (tk_trees_up_to : K.lookup tc8 = some ⟨te8, td8, .fields tv8, ts8⟩)
    (tv_trees_up_to : (tv8[11]? : Option Value) = some (.ref tp8))
    (tn_trees_up_to : K.lookup tp8 = none)
    (kk_trees_up_to : PySem.W.keepIn K (.ref f_trees_up_to) = true)
    (q_trees_over : PySem.W.nsIn K mainGlobals "_trees_over" = some (some (.ref f_trees_over)))
    (l_trees_over : K.lookup f_trees_over = some ⟨oc9, od9, .func (PySem.W.fnOf "_trees_over" "_trees_over" (defArgs s_trees_over) (defBody s_trees_over) (defScope s_trees_over) .none kV9 dc9 pm9 an9 cd9 ct9), sl9⟩)
    (cc_trees_over : PySem.W.codeIn K cd9 "_trees_over" = true)
    (kk_trees_over : PySem.W.keepIn K (.ref f_trees_over) = true)
    (q_least_tree_machine : PySem.W.nsIn K mainGlobals "least_tree_machine" = some (some (.ref f_least_tree_machine)))
    (l_least_tree_machine : K.lookup f_least_tree_machine = some ⟨oc10, od10, .func (PySem.W.fnOf "least_tree_machine" "least_tree_machine" (defArgs s_least_tree_machine) (defBody s_least_tree_machine) (defScope s_least_tree_machine) .none kV10 dc10 pm10 an10 (.ref tc10) ct10), sl10⟩)
    (cc_least_tree_machine : PySem.W.codeIn K (.ref tc10) "least_tree_machine" = true)
    (tk_least_tree_machine : K.lookup tc10 = some ⟨te10, td10, .fields tv10, ts10⟩)
    (tv_least_tree_machine : (tv10[11]? : Option Value) = some (.ref tp10))
    (tn_least_tree_machine : K.lookup tp10 = none)
    (kk_least_tree_machine : PySem.W.keepIn K (.ref f_least_tree_machine) = true)
    (q_met_states : PySem.W.nsIn K mainGlobals "_met_states" = some (some (.ref f_met_states)))
    (l_met_states : K.lookup f_met_states = some ⟨oc11, od11, .func (PySem.W.fnOf "_met_states" "_met_states" (defArgs s_met_states) (defBody s_met_states) (defScope s_met_states) .none kV11 dc11 pm11 an11 cd11 ct11), sl11⟩)
    (cc_met_states : PySem.W.codeIn K cd11 "_met_states" = true)
    (kk_met_states : PySem.W.keepIn K (.ref f_met_states) = true)
    (q_kept : PySem.W.nsIn K mainGlobals "_kept" = some (some (.ref f_kept)))
    (l_kept : K.lookup f_kept = some ⟨oc12, od12, .func (PySem.W.fnOf "_kept" "_kept" (defArgs s_kept) (defBody s_kept) (defScope s_kept) .none kV12 dc12 pm12 an12 cd12 ct12), sl12⟩)
    (cc_kept : PySem.W.codeIn K cd12 "_kept" = true)
    (kk_kept : PySem.W.keepIn K (.ref f_kept) = true)
    (q_classes : PySem.W.nsIn K mainGlobals "_classes" = some (some (.ref f_classes)))
    (l_classes : K.lookup f_classes = some ⟨oc13, od13, .func (PySem.W.fnOf "_classes" "_classes" (defArgs s_classes) (defBody s_classes) (defScope s_classes) .none kV13 dc13 pm13 an13 cd13 ct13), sl13⟩)
    (cc_classes : PySem.W.codeIn K cd13 "_classes" = true)
    (kk_classes : PySem.W.keepIn K (.ref f_classes) = true)
    (q_afters : PySem.W.nsIn K mainGlobals "_afters" = some (some (.ref f_afters)))
    (l_afters : K.lookup f_afters = some ⟨oc14, od14, .func (PySem.W.fnOf "_afters" "_afters" (defArgs s_afters) (defBody s_afters) (defScope s_afters) .none kV14 dc14 pm14 an14 cd14 ct14), sl14⟩)
    (cc_afters : PySem.W.codeIn K cd14 "_afters" = true)
    (kk_afters : PySem.W.keepIn K (.ref f_afters) = true)
    (q_law_numbers : PySem.W.nsIn K mainGlobals "_law_numbers" = some (some (.ref f_law_numbers)))
    (l_law_numbers : K.lookup f_law_numbers = some ⟨oc15, od15, .func (PySem.W.fnOf "_law_numbers" "_law_numbers" (defArgs s_law_numbers) (defBody s_law_numbers) (defScope s_law_numbers) .none kV15 dc15 pm15 an15 cd15 ct15), sl15⟩)
    (cc_law_numbers : PySem.W.codeIn K cd15 "_law_numbers" = true)
    (kk_law_numbers : PySem.W.keepIn K (.ref f_law_numbers) = true)
    (q_law_ranks : PySem.W.nsIn K mainGlobals "_law_ranks" = some (some (.ref f_law_ranks)))
    (l_law_ranks : K.lookup f_law_ranks = some ⟨oc16, od16, .func (PySem.W.fnOf "_law_ranks" "_law_ranks" (defArgs s_law_ranks) (defBody s_law_ranks) (defScope s_law_ranks) .none kV16 dc16 pm16 an16 cd16 ct16), sl16⟩)
    (cc_law_ranks : PySem.W.codeIn K cd16 "_law_ranks" = true)
    (kk_law_ranks : PySem.W.keepIn K (.ref f_law_ranks) = true)
    (q_law_tree_machine : PySem.W.nsIn K mainGlobals "_law_tree_machine" = some (some (.ref f_law_tree_machine)))
    (l_law_tree_machine : K.lookup f_law_tree_machine = some ⟨oc17, od17, .func (PySem.W.fnOf "_law_tree_machine" "_law_tree_machine" (defArgs s_law_tree_machine) (defBody s_law_tree_machine) (defScope s_law_tree_machine) .none kV17 dc17 pm17 an17 cd17 ct17), sl17⟩)
    (cc_law_tree_machine : PySem.W.codeIn K cd17 "_law_tree_machine" = true)
    (kk_law_tree_machine : PySem.W.keepIn K (.ref f_law_tree_machine) = true)
    (q_law_rule : PySem.W.nsIn K mainGlobals "_law_rule" = some (some (.ref f_law_rule)))
    (l_law_rule : K.lookup f_law_rule = some ⟨oc18, od18, .func (PySem.W.fnOf "_law_rule" "_law_rule" (defArgs s_law_rule) (defBody s_law_rule) (defScope s_law_rule) .none kV18 dc18 pm18 an18 cd18 ct18), sl18⟩)
    (cc_law_rule : PySem.W.codeIn K cd18 "_law_rule" = true)
    (kk_law_rule : PySem.W.keepIn K (.ref f_law_rule) = true)
    (q_law_reached : PySem.W.nsIn K mainGlobals "_law_reached" = some (some (.ref f_law_reached)))
    (l_law_reached : K.lookup f_law_reached = some ⟨oc19, od19, .func (PySem.W.fnOf "_law_reached" "_law_reached" (defArgs s_law_reached) (defBody s_law_reached) (defScope s_law_reached) .none kV19 dc19 pm19 an19 cd19 ct19), sl19⟩)
    (cc_law_reached : PySem.W.codeIn K cd19 "_law_reached" = true)
    (kk_law_reached : PySem.W.keepIn K (.ref f_law_reached) = true)
    (q_law_kids : PySem.W.nsIn K mainGlobals "_law_kids" = some (some (.ref f_law_kids)))
    (l_law_kids : K.lookup f_law_kids = some ⟨oc20, od20, .func (PySem.W.fnOf "_law_kids" "_law_kids" (defArgs s_law_kids) (defBody s_law_kids) (defScope s_law_kids) .none kV20 dc20 pm20 an20 cd20 ct20), sl20⟩)
    (cc_law_kids : PySem.W.codeIn K cd20 "_law_kids" = true)
    (kk_law_kids : PySem.W.keepIn K (.ref f_law_kids) = true)
    (q_law_pairs : PySem.W.nsIn K mainGlobals "_law_pairs" = some (some (.ref f_law_pairs)))
    (l_law_pairs : K.lookup f_law_pairs = some ⟨oc21, od21, .func (PySem.W.fnOf "_law_pairs" "_law_pairs" (defArgs s_law_pairs) (defBody s_law_pairs) (defScope s_law_pairs) .none kV21 dc21 pm21 an21 cd21 ct21), sl21⟩)
    (cc_law_pairs : PySem.W.codeIn K cd21 "_law_pairs" = true)
    (kk_law_pairs : PySem.W.keepIn K (.ref f_law_pairs) = true)
    (q_law_differ : PySem.W.nsIn K mainGlobals "_law_differ" = some (some (.ref f_law_differ)))
    (l_law_differ : K.lookup f_law_differ = some ⟨oc22, od22, .func (PySem.W.fnOf "_law_differ" "_law_differ" (defArgs s_law_differ) (defBody s_law_differ) (defScope s_law_differ) .none kV22 dc22 pm22 an22 cd22 ct22), sl22⟩)
    (cc_law_differ : PySem.W.codeIn K cd22 "_law_differ" = true)
    (kk_law_differ : PySem.W.keepIn K (.ref f_law_differ) = true)
    (q_law_parted : PySem.W.nsIn K mainGlobals "_law_parted" = some (some (.ref f_law_parted)))
    (l_law_parted : K.lookup f_law_parted = some ⟨oc23, od23, .func (PySem.W.fnOf "_law_parted" "_law_parted" (defArgs s_law_parted) (defBody s_law_parted) (defScope s_law_parted) .none kV23 dc23 pm23 an23 cd23 ct23), sl23⟩)
    (cc_law_parted : PySem.W.codeIn K cd23 "_law_parted" = true)
    (kk_law_parted : PySem.W.keepIn K (.ref f_law_parted) = true)
    (q_law_doubled : PySem.W.nsIn K mainGlobals "_law_doubled" = some (some (.ref f_law_doubled)))
    (l_law_doubled : K.lookup f_law_doubled = some ⟨oc24, od24, .func (PySem.W.fnOf "_law_doubled" "_law_doubled" (defArgs s_law_doubled) (defBody s_law_doubled) (defScope s_law_doubled) .none kV24 dc24 pm24 an24 cd24 ct24), sl24⟩)
    (cc_law_doubled : PySem.W.codeIn K cd24 "_law_doubled" = true)
    (kk_law_doubled : PySem.W.keepIn K (.ref f_law_doubled) = true)
    (q_law : PySem.W.nsIn K mainGlobals "law" = some (some (.ref f_law)))
    (l_law : K.lookup f_law = some ⟨oc25, od25, .func (PySem.W.fnOf "law" "law" (defArgs s_law) (defBody s_law) (defScope s_law) .none kV25 dc25 pm25 an25 cd25 ct25), sl25⟩)
    (cc_law : PySem.W.codeIn K cd25 "law" = true)
    (kk_law : PySem.W.keepIn K (.ref f_law) = true)
    (vv_MAX_SYMBOLS : PySem.W.nsIn K mainGlobals "MAX_SYMBOLS" = some (some vc0))
    (vr_MAX_SYMBOLS : RelV (.int 5) vc0)
    (vv_MAX_RANK : PySem.W.nsIn K mainGlobals "MAX_RANK" = some (some vc1))
    (vr_MAX_RANK : RelV (.int 2) vc1)
    (vv_MAX_TREE_STATES : PySem.W.nsIn K mainGlobals "MAX_TREE_STATES" = some (some vc2))
    (vr_MAX_TREE_STATES : RelV (.int 6) vc2)
    (vv_MAX_TREE_OUTS : PySem.W.nsIn K mainGlobals "MAX_TREE_OUTS" = some (some vc3))
    (vr_MAX_TREE_OUTS : RelV (.int 4) vc3)
    (vv_MAX_NODES : PySem.W.nsIn K mainGlobals "MAX_NODES" = some (some vc4))
    (vr_MAX_NODES : RelV (.int 400) vc4)
    (z_enumerate : PySem.W.nsIn K mainGlobals "enumerate" = some none)
    (z_all : PySem.W.nsIn K mainGlobals "all" = some none)
    (z_len : PySem.W.nsIn K mainGlobals "len" = some none)
    (z_zip : PySem.W.nsIn K mainGlobals "zip" = some none)
    (z_range : PySem.W.nsIn K mainGlobals "range" = some none)
    (z_min : PySem.W.nsIn K mainGlobals "min" = some none)
    (z_list : PySem.W.nsIn K mainGlobals "list" = some none)
    (z_sorted : PySem.W.nsIn K mainGlobals "sorted" = some none)
    (z_tuple : PySem.W.nsIn K mainGlobals "tuple" = some none)
    (z_abs : PySem.W.nsIn K mainGlobals "abs" = some none)
    (z_int : PySem.W.nsIn K mainGlobals "int" = some none)
    (z_max : PySem.W.nsIn K mainGlobals "max" = some none)
    (z_reversed : PySem.W.nsIn K mainGlobals "reversed" = some none)
    (z_any : PySem.W.nsIn K mainGlobals "any" = some none)
    (z_isinstance : PySem.W.nsIn K mainGlobals "isinstance" = some none)
    (nt_are_below_trees_up_to : tp1 ≠ tp8)
    (nt_are_below_least_tree_machine : tp1 ≠ tp10)
    (nt_trees_up_to_least_tree_machine : tp8 ≠ tp10) :
    ∃ (A : Ads) (c_are_below t_are_below : Addr) (c_trees_up_to t_trees_up_to : Addr) (c_least_tree_machine t_least_tree_machine : Addr), A.a_law = fa ∧ Txt K mg A ∧ (∀ (s : Shared) (v : Value), BindsTo s A.d_law ⟨[v], []⟩ [("script", v)]) ∧ A.d_are_below.code = .ref c_are_below ∧ PySem.W.tabIn K "are_below" = some (c_are_below, t_are_below) ∧ K.lookup t_are_below = none ∧ A.d_trees_up_to.code = .ref c_trees_up_to ∧ PySem.W.tabIn K "_trees_up_to" = some (c_trees_up_to, t_trees_up_to) ∧ K.lookup t_trees_up_to = none ∧ A.d_least_tree_machine.code = .ref c_least_tree_machine ∧ PySem.W.tabIn K "least_tree_machine" = some (c_least_tree_machine, t_least_tree_machine) ∧ K.lookup t_least_tree_machine = none ∧ t_are_below ≠ t_trees_up_to ∧ t_are_below ≠ t_least_tree_machine ∧ t_trees_up_to ≠ t_least_tree_machine := by
  have e := hfa.symm.trans (PySem.W.mg_of X G q_law)
  cases e
  have tab_are_below : PySem.W.tabIn K "are_below" = some (tc1, tp1) := by
    unfold PySem.W.tabIn
    rw [q_are_below]
    dsimp only
    rw [l_are_below]
    dsimp only [PySem.W.fnOf]
    rw [tk_are_below]
    dsimp only
    rw [tv_are_below]
  have tab_trees_up_to : PySem.W.tabIn K "_trees_up_to" = some (tc8, tp8) := by
    unfold PySem.W.tabIn
    rw [q_trees_up_to]
    dsimp only
    rw [l_trees_up_to]
    dsimp only [PySem.W.fnOf]
    rw [tk_trees_up_to]
    dsimp only
    rw [tv_trees_up_to]
  have tab_least_tree_machine : PySem.W.tabIn K "least_tree_machine" = some (tc10, tp10) := by
    unfold PySem.W.tabIn
    rw [q_least_tree_machine]
    dsimp only
    rw [l_least_tree_machine]
    dsimp only [PySem.W.fnOf]
    rw [tk_least_tree_machine]
    dsimp only
    rw [tv_least_tree_machine]
  refine ⟨{ a_MaieuticError := c_MaieuticError, a_NotAllowed := c_NotAllowed, a_first_places := f_first_places, d_first_places := PySem.W.fnOf "first_places" "first_places" (defArgs s_first_places) (defBody s_first_places) (defScope s_first_places) .none kV0 dc0 pm0 an0 cd0 ct0, a_are_below := f_are_below, d_are_below := PySem.W.fnOf "are_below" "are_below" (defArgs s_are_below) (defBody s_are_below) (defScope s_are_below) .none kV1 dc1 pm1 an1 (.ref tc1) ct1, a_are_ranks := f_are_ranks, d_are_ranks := PySem.W.fnOf "are_ranks" "are_ranks" (defArgs s_are_ranks) (defBody s_are_ranks) (defScope s_are_ranks) .none kV2 dc2 pm2 an2 cd2 ct2, a_check_tree_machine := f_check_tree_machine, d_check_tree_machine := PySem.W.fnOf "check_tree_machine" "check_tree_machine" (defArgs s_check_tree_machine) (defBody s_check_tree_machine) (defScope s_check_tree_machine) .none kV3 dc3 pm3 an3 cd3 ct3, a_kids_of := f_kids_of, d_kids_of := PySem.W.fnOf "kids_of" "kids_of" (defArgs s_kids_of) (defBody s_kids_of) (defScope s_kids_of) .none kV4 dc4 pm4 an4 cd4 ct4, a_entry_of := f_entry_of, d_entry_of := PySem.W.fnOf "entry_of" "entry_of" (defArgs s_entry_of) (defBody s_entry_of) (defScope s_entry_of) .none kV5 dc5 pm5 an5 cd5 ct5, a_tree_order := f_tree_order, d_tree_order := PySem.W.fnOf "tree_order" "tree_order" (defArgs s_tree_order) (defBody s_tree_order) (defScope s_tree_order) .none kV6 dc6 pm6 an6 cd6 ct6, a_first_trees := f_first_trees, d_first_trees := PySem.W.fnOf "first_trees" "first_trees" (defArgs s_first_trees) (defBody s_first_trees) (defScope s_first_trees) .none kV7 dc7 pm7 an7 cd7 ct7, a_trees_up_to := f_trees_up_to, d_trees_up_to := PySem.W.fnOf "_trees_up_to" "_trees_up_to" (defArgs s_trees_up_to) (defBody s_trees_up_to) (defScope s_trees_up_to) .none kV8 dc8 pm8 an8 (.ref tc8) ct8, a_trees_over := f_trees_over, d_trees_over := PySem.W.fnOf "_trees_over" "_trees_over" (defArgs s_trees_over) (defBody s_trees_over) (defScope s_trees_over) .none kV9 dc9 pm9 an9 cd9 ct9, a_least_tree_machine := f_least_tree_machine, d_least_tree_machine := PySem.W.fnOf "least_tree_machine" "least_tree_machine" (defArgs s_least_tree_machine) (defBody s_least_tree_machine) (defScope s_least_tree_machine) .none kV10 dc10 pm10 an10 (.ref tc10) ct10, a_met_states := f_met_states, d_met_states := PySem.W.fnOf "_met_states" "_met_states" (defArgs s_met_states) (defBody s_met_states) (defScope s_met_states) .none kV11 dc11 pm11 an11 cd11 ct11, a_kept := f_kept, d_kept := PySem.W.fnOf "_kept" "_kept" (defArgs s_kept) (defBody s_kept) (defScope s_kept) .none kV12 dc12 pm12 an12 cd12 ct12, a_classes := f_classes, d_classes := PySem.W.fnOf "_classes" "_classes" (defArgs s_classes) (defBody s_classes) (defScope s_classes) .none kV13 dc13 pm13 an13 cd13 ct13, a_afters := f_afters, d_afters := PySem.W.fnOf "_afters" "_afters" (defArgs s_afters) (defBody s_afters) (defScope s_afters) .none kV14 dc14 pm14 an14 cd14 ct14, a_law_numbers := f_law_numbers, d_law_numbers := PySem.W.fnOf "_law_numbers" "_law_numbers" (defArgs s_law_numbers) (defBody s_law_numbers) (defScope s_law_numbers) .none kV15 dc15 pm15 an15 cd15 ct15, a_law_ranks := f_law_ranks, d_law_ranks := PySem.W.fnOf "_law_ranks" "_law_ranks" (defArgs s_law_ranks) (defBody s_law_ranks) (defScope s_law_ranks) .none kV16 dc16 pm16 an16 cd16 ct16, a_law_tree_machine := f_law_tree_machine, d_law_tree_machine := PySem.W.fnOf "_law_tree_machine" "_law_tree_machine" (defArgs s_law_tree_machine) (defBody s_law_tree_machine) (defScope s_law_tree_machine) .none kV17 dc17 pm17 an17 cd17 ct17, a_law_rule := f_law_rule, d_law_rule := PySem.W.fnOf "_law_rule" "_law_rule" (defArgs s_law_rule) (defBody s_law_rule) (defScope s_law_rule) .none kV18 dc18 pm18 an18 cd18 ct18, a_law_reached := f_law_reached, d_law_reached := PySem.W.fnOf "_law_reached" "_law_reached" (defArgs s_law_reached) (defBody s_law_reached) (defScope s_law_reached) .none kV19 dc19 pm19 an19 cd19 ct19, a_law_kids := f_law_kids, d_law_kids := PySem.W.fnOf "_law_kids" "_law_kids" (defArgs s_law_kids) (defBody s_law_kids) (defScope s_law_kids) .none kV20 dc20 pm20 an20 cd20 ct20, a_law_pairs := f_law_pairs, d_law_pairs := PySem.W.fnOf "_law_pairs" "_law_pairs" (defArgs s_law_pairs) (defBody s_law_pairs) (defScope s_law_pairs) .none kV21 dc21 pm21 an21 cd21 ct21, a_law_differ := f_law_differ, d_law_differ := PySem.W.fnOf "_law_differ" "_law_differ" (defArgs s_law_differ) (defBody s_law_differ) (defScope s_law_differ) .none kV22 dc22 pm22 an22 cd22 ct22, a_law_parted := f_law_parted, d_law_parted := PySem.W.fnOf "_law_parted" "_law_parted" (defArgs s_law_parted) (defBody s_law_parted) (defScope s_law_parted) .none kV23 dc23 pm23 an23 cd23 ct23, a_law_doubled := f_law_doubled, d_law_doubled := PySem.W.fnOf "_law_doubled" "_law_doubled" (defArgs s_law_doubled) (defBody s_law_doubled) (defScope s_law_doubled) .none kV24 dc24 pm24 an24 cd24 ct24, a_law := fa, d_law := PySem.W.fnOf "law" "law" (defArgs s_law) (defBody s_law) (defScope s_law) .none kV25 dc25 pm25 an25 cd25 ct25 }, tc1, tp1, tc8, tp8, tc10, tp10, rfl, ?_, fun s v => .of_eq rfl, rfl, tab_are_below, tn_are_below, rfl, tab_trees_up_to, tn_trees_up_to, rfl, tab_least_tree_machine, tn_least_tree_machine, nt_are_below_trees_up_to, nt_are_below_least_tree_machine, nt_trees_up_to_least_tree_machine⟩
  exact {
    g_MaieuticError := PySem.W.mg_of X G r_MaieuticError,
    x_MaieuticError := rx_MaieuticError,
    k_MaieuticError := rk_MaieuticError,
    sb_MaieuticError := rb_MaieuticError,
    ty_MaieuticError := rt_MaieuticError,
    E_MaieuticError := ⟨rga_MaieuticError, rgg_MaieuticError, rb_MaieuticError, rh_MaieuticError, rc_MaieuticError, ra1, ra2, rm_MaieuticError⟩,
    g_NotAllowed := PySem.W.mg_of X G r_NotAllowed,
    x_NotAllowed := rx_NotAllowed,
    k_NotAllowed := rk_NotAllowed,
    sb_NotAllowed := rb_NotAllowed,
    ty_NotAllowed := rt_NotAllowed,
    E_NotAllowed := ⟨rga_NotAllowed, rgg_NotAllowed, rb_NotAllowed, rh_NotAllowed, rc_NotAllowed, ra1, ra2, rm_NotAllowed⟩,
    su_MaieuticError_MaieuticError := rsu_MaieuticError_MaieuticError,
    su_MaieuticError_NotAllowed := rsu_MaieuticError_NotAllowed,
    su_NotAllowed_MaieuticError := rsu_NotAllowed_MaieuticError,
    su_NotAllowed_NotAllowed := rsu_NotAllowed_NotAllowed,
    F_first_places := fun_mk (st := s_first_places) l_first_places cc_first_places kk_first_places,
    b_first_places := (fun_mk (st := s_first_places) l_first_places cc_first_places kk_first_places).binds (ps := ["marks"]) fun _ _ _ _ _ _ us hl => match us, hl with | [_], _ => rfl,
    g_first_places := PySem.W.mg_of X G q_first_places,
    F_are_below := fun_mk (st := s_are_below) l_are_below cc_are_below kk_are_below,
    b_are_below := (fun_mk (st := s_are_below) l_are_below cc_are_below kk_are_below).binds (ps := ["numbers", "limit"]) fun _ _ _ _ _ _ us hl => match us, hl with | [_, _], _ => rfl,
    g_are_below := PySem.W.mg_of X G q_are_below,
    F_are_ranks := fun_mk (st := s_are_ranks) l_are_ranks cc_are_ranks kk_are_ranks,
    b_are_ranks := (fun_mk (st := s_are_ranks) l_are_ranks cc_are_ranks kk_are_ranks).binds (ps := ["ranks"]) fun _ _ _ _ _ _ us hl => match us, hl with | [_], _ => rfl,
    g_are_ranks := PySem.W.mg_of X G q_are_ranks,
    F_check_tree_machine := fun_mk (st := s_check_tree_machine) l_check_tree_machine cc_check_tree_machine kk_check_tree_machine,
    b_check_tree_machine := (fun_mk (st := s_check_tree_machine) l_check_tree_machine cc_check_tree_machine kk_check_tree_machine).binds (ps := ["machine"]) fun _ _ _ _ _ _ us hl => match us, hl with | [_], _ => rfl,
    g_check_tree_machine := PySem.W.mg_of X G q_check_tree_machine,
    F_kids_of := fun_mk (st := s_kids_of) l_kids_of cc_kids_of kk_kids_of,
    b_kids_of := (fun_mk (st := s_kids_of) l_kids_of cc_kids_of kk_kids_of).binds (ps := ["rank", "states"]) fun _ _ _ _ _ _ us hl => match us, hl with | [_, _], _ => rfl,
    g_kids_of := PySem.W.mg_of X G q_kids_of,
    F_entry_of := fun_mk (st := s_entry_of) l_entry_of cc_entry_of kk_entry_of,
    b_entry_of := (fun_mk (st := s_entry_of) l_entry_of cc_entry_of kk_entry_of).binds (ps := ["kids", "count"]) fun _ _ _ _ _ _ us hl => match us, hl with | [_, _], _ => rfl,
    g_entry_of := PySem.W.mg_of X G q_entry_of,
    F_tree_order := fun_mk (st := s_tree_order) l_tree_order cc_tree_order kk_tree_order,
    b_tree_order := (fun_mk (st := s_tree_order) l_tree_order cc_tree_order kk_tree_order).binds (ps := ["tree"]) fun _ _ _ _ _ _ us hl => match us, hl with | [_], _ => rfl,
    g_tree_order := PySem.W.mg_of X G q_tree_order,
    F_first_trees := fun_mk (st := s_first_trees) l_first_trees cc_first_trees kk_first_trees,
    b_first_trees := (fun_mk (st := s_first_trees) l_first_trees cc_first_trees kk_first_trees).binds (ps := ["machine"]) fun _ _ _ _ _ _ us hl => match us, hl with | [_], _ => rfl,
    g_first_trees := PySem.W.mg_of X G q_first_trees,
    F_trees_up_to := fun_mk (st := s_trees_up_to) l_trees_up_to cc_trees_up_to kk_trees_up_to,
    b_trees_up_to := (fun_mk (st := s_trees_up_to) l_trees_up_to cc_trees_up_to kk_trees_up_to).binds (ps := ["machine", "most"]) fun _ _ _ _ _ _ us hl => match us, hl with | [_, _], _ => rfl,
    g_trees_up_to := PySem.W.mg_of X G q_trees_up_to,
    F_trees_over := fun_mk (st := s_trees_over) l_trees_over cc_trees_over kk_trees_over,
    b_trees_over := (fun_mk (st := s_trees_over) l_trees_over cc_trees_over kk_trees_over).binds (ps := ["machine", "firsts", "state"]) fun _ _ _ _ _ _ us hl => match us, hl with | [_, _, _], _ => rfl,
    g_trees_over := PySem.W.mg_of X G q_trees_over,
    F_least_tree_machine := fun_mk (st := s_least_tree_machine) l_least_tree_machine cc_least_tree_machine kk_least_tree_machine,
    b_least_tree_machine := (fun_mk (st := s_least_tree_machine) l_least_tree_machine cc_least_tree_machine kk_least_tree_machine).binds (ps := ["machine"]) fun _ _ _ _ _ _ us hl => match us, hl with | [_], _ => rfl,
    g_least_tree_machine := PySem.W.mg_of X G q_least_tree_machine,
    F_met_states := fun_mk (st := s_met_states) l_met_states cc_met_states kk_met_states,
    b_met_states := (fun_mk (st := s_met_states) l_met_states cc_met_states kk_met_states).binds (ps := ["machine"]) fun _ _ _ _ _ _ us hl => match us, hl with | [_], _ => rfl,
    g_met_states := PySem.W.mg_of X G q_met_states,
    F_kept := fun_mk (st := s_kept) l_kept cc_kept kk_kept,
    b_kept := (fun_mk (st := s_kept) l_kept cc_kept kk_kept).binds (ps := ["machine", "states", "numbers"]) fun _ _ _ _ _ _ us hl => match us, hl with | [_, _, _], _ => rfl,
    g_kept := PySem.W.mg_of X G q_kept,
    F_classes := fun_mk (st := s_classes) l_classes cc_classes kk_classes,
    b_classes := (fun_mk (st := s_classes) l_classes cc_classes kk_classes).binds (ps := ["machine"]) fun _ _ _ _ _ _ us hl => match us, hl with | [_], _ => rfl,
    g_classes := PySem.W.mg_of X G q_classes,
    F_afters := fun_mk (st := s_afters) l_afters cc_afters kk_afters,
    b_afters := (fun_mk (st := s_afters) l_afters cc_afters kk_afters).binds (ps := ["machine", "same", "state"]) fun _ _ _ _ _ _ us hl => match us, hl with | [_, _, _], _ => rfl,
    g_afters := PySem.W.mg_of X G q_afters,
    F_law_numbers := fun_mk (st := s_law_numbers) l_law_numbers cc_law_numbers kk_law_numbers,
    b_law_numbers := (fun_mk (st := s_law_numbers) l_law_numbers cc_law_numbers kk_law_numbers).binds (ps := ["script", "many"]) fun _ _ _ _ _ _ us hl => match us, hl with | [_, _], _ => rfl,
    g_law_numbers := PySem.W.mg_of X G q_law_numbers,
    F_law_ranks := fun_mk (st := s_law_ranks) l_law_ranks cc_law_ranks kk_law_ranks,
    b_law_ranks := (fun_mk (st := s_law_ranks) l_law_ranks cc_law_ranks kk_law_ranks).binds (ps := ["number"]) fun _ _ _ _ _ _ us hl => match us, hl with | [_], _ => rfl,
    g_law_ranks := PySem.W.mg_of X G q_law_ranks,
    F_law_tree_machine := fun_mk (st := s_law_tree_machine) l_law_tree_machine cc_law_tree_machine kk_law_tree_machine,
    b_law_tree_machine := (fun_mk (st := s_law_tree_machine) l_law_tree_machine cc_law_tree_machine kk_law_tree_machine).binds (ps := ["numbers", "ranks", "outs", "states"]) fun _ _ _ _ _ _ us hl => match us, hl with | [_, _, _, _], _ => rfl,
    g_law_tree_machine := PySem.W.mg_of X G q_law_tree_machine,
    F_law_rule := fun_mk (st := s_law_rule) l_law_rule cc_law_rule kk_law_rule,
    b_law_rule := (fun_mk (st := s_law_rule) l_law_rule cc_law_rule kk_law_rule).binds (ps := ["machine", "symbol", "kids"]) fun _ _ _ _ _ _ us hl => match us, hl with | [_, _, _], _ => rfl,
    g_law_rule := PySem.W.mg_of X G q_law_rule,
    F_law_reached := fun_mk (st := s_law_reached) l_law_reached cc_law_reached kk_law_reached,
    b_law_reached := (fun_mk (st := s_law_reached) l_law_reached cc_law_reached kk_law_reached).binds (ps := ["machine"]) fun _ _ _ _ _ _ us hl => match us, hl with | [_], _ => rfl,
    g_law_reached := PySem.W.mg_of X G q_law_reached,
    F_law_kids := fun_mk (st := s_law_kids) l_law_kids cc_law_kids kk_law_kids,
    b_law_kids := (fun_mk (st := s_law_kids) l_law_kids cc_law_kids kk_law_kids).binds (ps := ["rank", "states"]) fun _ _ _ _ _ _ us hl => match us, hl with | [_, _], _ => rfl,
    g_law_kids := PySem.W.mg_of X G q_law_kids,
    F_law_pairs := fun_mk (st := s_law_pairs) l_law_pairs cc_law_pairs kk_law_pairs,
    b_law_pairs := (fun_mk (st := s_law_pairs) l_law_pairs cc_law_pairs kk_law_pairs).binds (ps := ["first", "second"]) fun _ _ _ _ _ _ us hl => match us, hl with | [_, _], _ => rfl,
    g_law_pairs := PySem.W.mg_of X G q_law_pairs,
    F_law_differ := fun_mk (st := s_law_differ) l_law_differ cc_law_differ kk_law_differ,
    b_law_differ := (fun_mk (st := s_law_differ) l_law_differ cc_law_differ kk_law_differ).binds (ps := ["first", "second"]) fun _ _ _ _ _ _ us hl => match us, hl with | [_, _], _ => rfl,
    g_law_differ := PySem.W.mg_of X G q_law_differ,
    F_law_parted := fun_mk (st := s_law_parted) l_law_parted cc_law_parted kk_law_parted,
    b_law_parted := (fun_mk (st := s_law_parted) l_law_parted cc_law_parted kk_law_parted).binds (ps := ["machine"]) fun _ _ _ _ _ _ us hl => match us, hl with | [_], _ => rfl,
    g_law_parted := PySem.W.mg_of X G q_law_parted,
    F_law_doubled := fun_mk (st := s_law_doubled) l_law_doubled cc_law_doubled kk_law_doubled,
    b_law_doubled := (fun_mk (st := s_law_doubled) l_law_doubled cc_law_doubled kk_law_doubled).binds (ps := ["machine", "numbers"]) fun _ _ _ _ _ _ us hl => match us, hl with | [_, _], _ => rfl,
    g_law_doubled := PySem.W.mg_of X G q_law_doubled,
    F_law := fun_mk (st := s_law) l_law cc_law kk_law,
    b_law := (fun_mk (st := s_law) l_law cc_law kk_law).binds (ps := ["script"]) fun _ _ _ _ _ _ us hl => match us, hl with | [_], _ => rfl,
    g_law := PySem.W.mg_of X G q_law,
    c_MAX_SYMBOLS := ⟨_, PySem.W.mg_of X G vv_MAX_SYMBOLS, vr_MAX_SYMBOLS⟩,
    c_MAX_RANK := ⟨_, PySem.W.mg_of X G vv_MAX_RANK, vr_MAX_RANK⟩,
    c_MAX_TREE_STATES := ⟨_, PySem.W.mg_of X G vv_MAX_TREE_STATES, vr_MAX_TREE_STATES⟩,
    c_MAX_TREE_OUTS := ⟨_, PySem.W.mg_of X G vv_MAX_TREE_OUTS, vr_MAX_TREE_OUTS⟩,
    c_MAX_NODES := ⟨_, PySem.W.mg_of X G vv_MAX_NODES, vr_MAX_NODES⟩,
    n_enumerate := PySem.W.mg_none_of X G z_enumerate,
    n_all := PySem.W.mg_none_of X G z_all,
    n_len := PySem.W.mg_none_of X G z_len,
    n_zip := PySem.W.mg_none_of X G z_zip,
    n_range := PySem.W.mg_none_of X G z_range,
    n_min := PySem.W.mg_none_of X G z_min,
    n_list := PySem.W.mg_none_of X G z_list,
    n_sorted := PySem.W.mg_none_of X G z_sorted,
    n_tuple := PySem.W.mg_none_of X G z_tuple,
    n_abs := PySem.W.mg_none_of X G z_abs,
    n_int := PySem.W.mg_none_of X G z_int,
    n_max := PySem.W.mg_none_of X G z_max,
    n_reversed := PySem.W.mg_none_of X G z_reversed,
    n_any := PySem.W.mg_none_of X G z_any,
    n_isinstance := PySem.W.mg_none_of X G z_isinstance }
theorem walk {l : PySem.W.OpenLaw} {q : Program} {loose : List Str} {XP : (Str → Option Value) → Heap → Prop} {YP : World → Heap → Prop} {d : DefRec} {K : Params → PySem.W.Frag} (hn : l.most = some 63) (hdf : d.params.defaults = [])
    (hrec : ((((recsOf q).find? fun e => e.name == ("are_below" : Str)).isSome && ((recsOf q).find? fun e => e.name == ("_trees_up_to" : Str)).isSome) && ((recsOf q).find? fun e => e.name == ("least_tree_machine" : Str)).isSome) = true) (hY : ∀ (w : World) (h : Heap), YP w h → (K w.params).In h)
    (F : ∀ (w : World) (mg : Str → Option Value) (fa : Addr) (h : Heap), (K w.params).In h → h.Ns mainGlobals mg → mg d.name = some (.ref fa) →
      ∃ (A : Ads) (c1 P1 c2 P2 c3 P3 : Addr), A.a_law = fa ∧ Txt (K w.params) mg A ∧ (∀ (s : Shared) (v : Value), BindsTo s A.d_law ⟨[v], []⟩ [("script", v)]) ∧ A.d_are_below.code = .ref c1 ∧ PySem.W.tabIn (K w.params) "are_below" = some (c1, P1) ∧ (K w.params).lookup P1 = none ∧
        A.d_trees_up_to.code = .ref c2 ∧ PySem.W.tabIn (K w.params) "_trees_up_to" = some (c2, P2) ∧ (K w.params).lookup P2 = none ∧ A.d_least_tree_machine.code = .ref c3 ∧ PySem.W.tabIn (K w.params) "least_tree_machine" = some (c3, P3) ∧ (K w.params).lookup P3 = none ∧ P1 ≠ P2 ∧ P1 ≠ P3 ∧ P2 ≠ P3) :
    PySem.W.WalkO q loose XP YP l.row.toRowW d [] (fun f vs => PySem.call f vs) := by
  refine Att.attach_callB hn hdf fun w s₀ s₁ mg mb fa o pm cd doc a vs ns G Y ho hd hcd hmg hobj hints hlen hbits hg => ?_
  have KX := hY w _ Y
  obtain ⟨A, c1, P1, c2, P2, c3, P3, rfl, T, hb, hc1, ht1, hn1, hc2, ht2, hn2, hc3, ht3, hn3, h12, h13, h23⟩ := F w mg fa _ KX G.T.g hmg
  rw [Bool.and_eq_true, Bool.and_eq_true] at hrec
  obtain ⟨e1, he1⟩ := Option.isSome_iff_exists.mp hrec.1.1
  obtain ⟨e2, he2⟩ := Option.isSome_iff_exists.mp hrec.1.2
  obtain ⟨e3, he3⟩ := Option.isSome_iff_exists.mp hrec.2
  obtain ⟨C1, hP1⟩ := PySem.W.tab_of G.T KX he1 ht1
  obtain ⟨C2, hP2⟩ := PySem.W.tab_of G.T KX he2 ht2
  obtain ⟨C3, hP3⟩ := PySem.W.tab_of G.T KX he3 ht3
  have m1 : (c1, P1) ∈ [(c1, P1), (c2, P2), (c3, P3)] := List.mem_cons_self
  have m2 : (c2, P2) ∈ [(c1, P1), (c2, P2), (c3, P3)] := List.mem_cons_of_mem _ List.mem_cons_self
  have m3 : (c3, P3) ∈ [(c1, P1), (c2, P2), (c3, P3)] := List.mem_cons_of_mem _ (List.mem_cons_of_mem _ List.mem_cons_self)
  have nil : TriplesOk (#[] : Array Value).toList := by first | exact .nil | trivial | exact PySem.W.triplesOk_nil | exact fun _ h => absurd h (by simp)
  have all : ∀ {R : Addr × Addr → Prop}, R (c1, P1) → R (c2, P2) → R (c3, P3) → ∀ p ∈ [(c1, P1), (c2, P2), (c3, P3)], R p := fun h1 h2 h3 p hp => by
    rcases List.mem_cons.mp hp with z | z
    · cases z
      exact h1
    · rcases List.mem_cons.mp z with z | z
      · cases z
        exact h2
      · cases List.mem_singleton.mp z
        exact h3
  refine LamX.law_callTs (CX := CX0) (k := 7) (cs := [(c1, P1), (c2, P2), (c3, P3)]) (fd := A.d_law) (x := "script") (sp := spLaw (K w.params) P1 P2 P3) KX G.T.g G.T.b G.T.builtins G.T.nolimit hg (all hP1 hP2 hP3) (all hn1 hn2 hn3) (all C1 C2 C3) G.T.bmain hobj hints (Nat.le_trans hlen (by decide)) ⟨rfl, by decide, by decide⟩
    (fun base _ _ hT => ok_law T h12 h13 h23 ⟨(hT _ m1).code, (hT _ m1).bm, (hT _ m1).gP⟩ hc1 ⟨(hT _ m2).code, (hT _ m2).bm, (hT _ m2).gP⟩ hc2 ⟨(hT _ m3).code, (hT _ m3).bm, (hT _ m3).gP⟩ hc3) hb (fun H hH hS => ⟨a, ns, rfl, hS, hlen, ⟨#[], hH _ m1, nil⟩, LamX.TabS.nil (hH _ m2), LamX.TabS.nil (hH _ m3), fun _ => rfl⟩) fun _ _ _ z => z
end K63

set_option Elab.async false
open PySem PySem.W PyProof.Rows in
set_option maxRecDepth 100000 in
set_option maxHeartbeats 0 in
theorem PySem.Challenge.cw_maieutic_k63_least_tree_machines_holds : PySem.Challenge.rw_maieutic_k63_least_tree_machines.Holds := by
  w_on; o_law; k_head; (case hw => w_witness2)
  k_fill
  refine K63.walk (l := PySem.Challenge.rw_maieutic_k63_least_tree_machines) rfl rfl ?hrec (fun w h Y => PySem.W.km_in_of Y) ?F
  (case hrec => first | kernel_rfl | rfl | decide +kernel)
  case F =>
    intro w mg fa h KX G hmg
    refine' K63.all_mk KX G hmg ?r_MaieuticError ?rx_MaieuticError ?rk_MaieuticError ?rb_MaieuticError ?rt_MaieuticError ?rga_MaieuticError ?rgg_MaieuticError ?rh_MaieuticError ?rc_MaieuticError ?rm_MaieuticError ?r_NotAllowed ?rx_NotAllowed ?rk_NotAllowed ?rb_NotAllowed ?rt_NotAllowed ?rga_NotAllowed ?rgg_NotAllowed ?rh_NotAllowed ?rc_NotAllowed ?rm_NotAllowed ?ra1 ?ra2 ?rsu_MaieuticError_MaieuticError ?rsu_MaieuticError_NotAllowed ?rsu_NotAllowed_MaieuticError ?rsu_NotAllowed_NotAllowed ?q_first_places ?l_first_places ?cc_first_places ?kk_first_places ?q_are_below ?l_are_below ?cc_are_below ?tk_are_below ?tv_are_below ?tn_are_below ?kk_are_below ?q_are_ranks ?l_are_ranks ?cc_are_ranks ?kk_are_ranks ?q_check_tree_machine ?l_check_tree_machine ?cc_check_tree_machine ?kk_check_tree_machine ?q_kids_of ?l_kids_of ?cc_kids_of ?kk_kids_of ?q_entry_of ?l_entry_of ?cc_entry_of ?kk_entry_of ?q_tree_order ?l_tree_order ?cc_tree_order ?kk_tree_order ?q_first_trees ?l_first_trees ?cc_first_trees ?kk_first_trees ?q_trees_up_to ?l_trees_up_to ?cc_trees_up_to ?tk_trees_up_to ?tv_trees_up_to ?tn_trees_up_to ?kk_trees_up_to ?q_trees_over ?l_trees_over ?cc_trees_over ?kk_trees_over ?q_least_tree_machine ?l_least_tree_machine ?cc_least_tree_machine ?tk_least_tree_machine ?tv_least_tree_machine ?tn_least_tree_machine ?kk_least_tree_machine ?q_met_states ?l_met_states ?cc_met_states ?kk_met_states ?q_kept ?l_kept ?cc_kept ?kk_kept ?q_classes ?l_classes ?cc_classes ?kk_classes ?q_afters ?l_afters ?cc_afters ?kk_afters ?q_law_numbers ?l_law_numbers ?cc_law_numbers ?kk_law_numbers ?q_law_ranks ?l_law_ranks ?cc_law_ranks ?kk_law_ranks ?q_law_tree_machine ?l_law_tree_machine ?cc_law_tree_machine ?kk_law_tree_machine ?q_law_rule ?l_law_rule ?cc_law_rule ?kk_law_rule ?q_law_reached ?l_law_reached ?cc_law_reached ?kk_law_reached ?q_law_kids ?l_law_kids ?cc_law_kids ?kk_law_kids ?q_law_pairs ?l_law_pairs ?cc_law_pairs ?kk_law_pairs ?q_law_differ ?l_law_differ ?cc_law_differ ?kk_law_differ ?q_law_parted ?l_law_parted ?cc_law_parted ?kk_law_parted ?q_law_doubled ?l_law_doubled ?cc_law_doubled ?kk_law_doubled ?q_law ?l_law ?cc_law ?kk_law ?vv_MAX_SYMBOLS ?vr_MAX_SYMBOLS ?vv_MAX_RANK ?vr_MAX_RANK ?vv_MAX_TREE_STATES ?vr_MAX_TREE_STATES ?vv_MAX_TREE_OUTS ?vr_MAX_TREE_OUTS ?vv_MAX_NODES ?vr_MAX_NODES ?z_enumerate ?z_all ?z_len ?z_zip ?z_range ?z_min ?z_list ?z_sorted ?z_tuple ?z_abs ?z_int ?z_max ?z_reversed ?z_any ?z_isinstance ?nt_are_below_trees_up_to ?nt_are_below_least_tree_machine ?nt_trees_up_to_least_tree_machine
    (case r_MaieuticError => k_is)
    (case rx_MaieuticError => first | k_exc | k_is)
    (case rk_MaieuticError => k_is)
    (case rb_MaieuticError => k_is)
    (case rt_MaieuticError => k_is)
    (case rga_MaieuticError => k_is)
    (case rgg_MaieuticError => k_is)
    (case rh_MaieuticError => k_is)
    (case rc_MaieuticError => k_is)
    (case rm_MaieuticError => k_is)
    (case r_NotAllowed => k_is)
    (case rx_NotAllowed => first | k_exc | k_is)
    (case rk_NotAllowed => k_is)
    (case rb_NotAllowed => k_is)
    (case rt_NotAllowed => k_is)
    (case rga_NotAllowed => k_is)
    (case rgg_NotAllowed => k_is)
    (case rh_NotAllowed => k_is)
    (case rc_NotAllowed => k_is)
    (case rm_NotAllowed => k_is)
    (case ra1 => k_is)
    (case ra2 => k_is)
    (case rsu_MaieuticError_MaieuticError => k_is)
    (case rsu_MaieuticError_NotAllowed => k_is)
    (case rsu_NotAllowed_MaieuticError => k_is)
    (case rsu_NotAllowed_NotAllowed => k_is)
    (case q_first_places => k_is)
    (case l_first_places => k_is)
    (case cc_first_places => k_is)
    (case kk_first_places => k_is)
    (case q_are_below => k_is)
    (case l_are_below => k_is)
    (case cc_are_below => k_is)
    (case tk_are_below => k_is)
    (case tv_are_below => rfl)
    (case tn_are_below => kernel_rfl)
    (case kk_are_below => k_is)
    (case q_are_ranks => k_is)
    (case l_are_ranks => k_is)
    (case cc_are_ranks => k_is)
    (case kk_are_ranks => k_is)
    (case q_check_tree_machine => k_is)
    (case l_check_tree_machine => k_is)
    (case cc_check_tree_machine => k_is)
    (case kk_check_tree_machine => k_is)
    (case q_kids_of => k_is)
    (case l_kids_of => k_is)
    (case cc_kids_of => k_is)
    (case kk_kids_of => k_is)
    (case q_entry_of => k_is)
    (case l_entry_of => k_is)
    (case cc_entry_of => k_is)
    (case kk_entry_of => k_is)
    (case q_tree_order => k_is)
    (case l_tree_order => k_is)
    (case cc_tree_order => k_is)
    (case kk_tree_order => k_is)
    (case q_first_trees => k_is)
    (case l_first_trees => k_is)
    (case cc_first_trees => k_is)
    (case kk_first_trees => k_is)
    (case q_trees_up_to => k_is)
    (case l_trees_up_to => k_is)
    (case cc_trees_up_to => k_is)
    (case tk_trees_up_to => k_is)
    (case tv_trees_up_to => rfl)
    (case tn_trees_up_to => kernel_rfl)
    (case kk_trees_up_to => k_is)
    (case q_trees_over => k_is)
    (case l_trees_over => k_is)
    (case cc_trees_over => k_is)
    (case kk_trees_over => k_is)
    (case q_least_tree_machine => k_is)
    (case l_least_tree_machine => k_is)
    (case cc_least_tree_machine => k_is)
    (case tk_least_tree_machine => k_is)
    (case tv_least_tree_machine => rfl)
    (case tn_least_tree_machine => kernel_rfl)
    (case kk_least_tree_machine => k_is)
    (case q_met_states => k_is)
    (case l_met_states => k_is)
    (case cc_met_states => k_is)
    (case kk_met_states => k_is)
    (case q_kept => k_is)
    (case l_kept => k_is)
    (case cc_kept => k_is)
    (case kk_kept => k_is)
    (case q_classes => k_is)
    (case l_classes => k_is)
    (case cc_classes => k_is)
    (case kk_classes => k_is)
    (case q_afters => k_is)
    (case l_afters => k_is)
    (case cc_afters => k_is)
    (case kk_afters => k_is)
    (case q_law_numbers => k_is)
    (case l_law_numbers => k_is)
    (case cc_law_numbers => k_is)
    (case kk_law_numbers => k_is)
    (case q_law_ranks => k_is)
    (case l_law_ranks => k_is)
    (case cc_law_ranks => k_is)
    (case kk_law_ranks => k_is)
    (case q_law_tree_machine => k_is)
    (case l_law_tree_machine => k_is)
    (case cc_law_tree_machine => k_is)
    (case kk_law_tree_machine => k_is)
    (case q_law_rule => k_is)
    (case l_law_rule => k_is)
    (case cc_law_rule => k_is)
    (case kk_law_rule => k_is)
    (case q_law_reached => k_is)
    (case l_law_reached => k_is)
    (case cc_law_reached => k_is)
    (case kk_law_reached => k_is)
    (case q_law_kids => k_is)
    (case l_law_kids => k_is)
    (case cc_law_kids => k_is)
    (case kk_law_kids => k_is)
    (case q_law_pairs => k_is)
    (case l_law_pairs => k_is)
    (case cc_law_pairs => k_is)
    (case kk_law_pairs => k_is)
    (case q_law_differ => k_is)
    (case l_law_differ => k_is)
    (case cc_law_differ => k_is)
    (case kk_law_differ => k_is)
    (case q_law_parted => k_is)
    (case l_law_parted => k_is)
    (case cc_law_parted => k_is)
    (case kk_law_parted => k_is)
    (case q_law_doubled => k_is)
    (case l_law_doubled => k_is)
    (case cc_law_doubled => k_is)
    (case kk_law_doubled => k_is)
    (case q_law => k_is)
    (case l_law => k_is)
    (case cc_law => k_is)
    (case kk_law => k_is)
    (case vv_MAX_SYMBOLS => k_is)
    (case vr_MAX_SYMBOLS => first | rfl | exact ⟨_, rfl⟩)
    (case vv_MAX_RANK => k_is)
    (case vr_MAX_RANK => first | rfl | exact ⟨_, rfl⟩)
    (case vv_MAX_TREE_STATES => k_is)
    (case vr_MAX_TREE_STATES => first | rfl | exact ⟨_, rfl⟩)
    (case vv_MAX_TREE_OUTS => k_is)
    (case vr_MAX_TREE_OUTS => first | rfl | exact ⟨_, rfl⟩)
    (case vv_MAX_NODES => k_is)
    (case vr_MAX_NODES => first | rfl | exact ⟨_, rfl⟩)
    (case z_enumerate => k_is)
    (case z_all => k_is)
    (case z_len => k_is)
    (case z_zip => k_is)
    (case z_range => k_is)
    (case z_min => k_is)
    (case z_list => k_is)
    (case z_sorted => k_is)
    (case z_tuple => k_is)
    (case z_abs => k_is)
    (case z_int => k_is)
    (case z_max => k_is)
    (case z_reversed => k_is)
    (case z_any => k_is)
    (case z_isinstance => k_is)
    (case nt_are_below_trees_up_to => first | decide | decide +kernel)
    (case nt_are_below_least_tree_machine => first | decide | decide +kernel)
    (case nt_trees_up_to_least_tree_machine => first | decide | decide +kernel)
