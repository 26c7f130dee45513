import PyProof.Rows.All
import Wide.All
import OpenK.AllK
import Wide.FinOn
import HandS.ForMost
import HandS.Wide
import HandS.IsInst
import HandS.Defaults
import HandS.Codes
import HandS.Style
import PyProof.ReprRoads
import PyProof.ReprLen
import HandS.Zip
import HandS.NoneIn
import HandS.TupAny
import HandS.WordsExc
import HandS.ExcCtx
import HandS.ForExc
import HandS.Small
import HandS.RaiseMore
import HandS.Text
import HandS.More
import HandS.FStr
import PyProof.StrOps2
import PyProof.StrLawsChain
import PyProof.StrLawsTight
import KE.IntTextText
import HandS.Hot
import HandS.HotCalls
import HandS.Comp
import PyProof.Seq
import PyProof.Rows.TupIter
import HandS.ExcIs
import HandS.ExcInit
import HandS.ExcField
import KE.KIsAll
import KE.KExcIs
import HandS.Steps
import HandS.Walk
import PySem.Challenge.RW_unlikepairs_k55_text_errors
set_option Elab.async false
set_option linter.all false
set_option maxRecDepth 100000
set_option maxHeartbeats 4000000
namespace UP
open PySem PySem.Spec PyProof.Rows L2

/-! ### a def that keeps a promise, by its name -/
section
variable (P : Program) (w : World) (K : PySem.W.Frag) (mg : Str → Option Value) (base : Heap)
def Has (k : Nat) (x : Str) (ps : List Str) (sp : Sp) : Prop :=
  ∃ f fd, mg x = some (.ref f) ∧ PySem.W.keepIn K (.ref f) = true ∧ Binds K fd ps [] ∧ FnOk P w K mg base CX0 k f fd ps sp
def Df (x : Str) (st : Stmt) : Prop := ∃ f fd, mg x = some (.ref f) ∧ Fun K x x st f fd
end
theorem Df.of {K : PySem.W.Frag} {mg : Str → Option Value} {x : Str} {st : Stmt} {f : Addr} {fd : FuncData} (g : mg x = some (.ref f)) (F : Fun K x x st f fd) : Df K mg x st := ⟨f, fd, g, F⟩
section
variable {P : Program} {w : World} {K : PySem.W.Frag} {mg : Str → Option Value} {base : Heap}
theorem has_of {x : Str} {st : Stmt} {ps N : List Str} {k : Nat} {sp : Sp} (D : Df K mg x st) (S : FnScope N ps (defScope st))
    (hb : ∀ (kV doc pm : Value) (an : Option Addr) (cdv ct : Value) (us : List Value), us.length = ps.length → bindArgs (PySem.W.fnOf x x (defArgs st) (defBody st) (defScope st) .none kV doc pm an cdv ct) ⟨us, []⟩ = pure (ps.zip us))
    (len : ∀ vs H Q E, sp vs H Q E → vs.length = ps.length)
    (body : ∀ (f : Addr) (cdv : Value) (A : Around) (outer : List Env) (s : Shared) (H : Hp) (vs : List V) (Q : VK) (E : XK), Room k (A.deeper (envOfC x (defScope st) s.heap.objs.size f cdv)) → sp vs H Q E →
      ∃ t, PSs (cxOf CX0 P w K mg base N x (defScope st) f cdv A outer s H E).nox (defBody st) t ∧ t { nx := fun _ H' => Q .non H', rt := Q } (start N vs) H) :
    Has P w K mg base (k + 1) x ps sp := by
  obtain ⟨f, fd, g, F⟩ := D
  exact ⟨f, fd, g, F.kp, F.binds hb, F.ok S len fun cdv A outer s H vs Q E hr h => body f cdv A outer s H vs Q E hr h⟩
theorem Has.weak {x : Str} {ps : List Str} {k : Nat} {sp sp' : Sp} (h : Has P w K mg base k x ps sp) (e : sp = sp') : Has P w K mg base k x ps sp' := e ▸ h
end
section
variable {X : Cx}
theorem pe_callH {k : Nat} {x : Str} {ps : List Str} {sp : Sp} {p pos : Pos} {e : Expr} {es : List Expr} {t : TA} (G : Has X.prog X.w X.K X.mg X.base k x ps sp) (hr : Room k X.A) (hg : Gl X x) (ha : PA X (e :: es) t)
    (hdb : (x == ("__debug__" : Str)) = false := by decide) (he : starEach (e :: es) X.env = (false, eval e X.env) :: starEach es X.env := by rfl) (hpl : (backTo pos (starEach es X.env)).any (·.1) = false := by rfl) :
    PE X (.Call (.Name x p) (e :: es) [] pos) (tCall sp [] E0 t) := by
  obtain ⟨f, fd, g, kp, b, F⟩ := G
  exact pe_call F hr hg g kp b .nil pass0 ha hdb he hpl
theorem pe_glI {x : Str} {i : Int} {pos : Pos} (h : ∃ t, X.mg x = some (.int i t)) (hg : Gl X x) (hd : (x == ("__debug__" : Str)) = false := by decide) : PE X (.Name x pos) (tC (.int i)) := by
  obtain ⟨t, h⟩ := h
  exact pe_glob hg h ⟨t, rfl⟩ hd
end

/-! ### heaps -/
theorem same_upd {H : Hp} {p : Addr} {o : HO} (h : H p = none) : Same H (upd H p o) := fun b x e => by
  rw [upd_ne (ne_of_none e h)]
  exact e
/-- all but the object at sp is as it was -/
def But (sp : Addr) (H H' : Hp) : Prop := ∀ b o, b ≠ sp → H b = some o → H' b = some o
theorem Same.but {sp : Addr} {H H' : Hp} (h : Same H H') : But sp H H' := fun b o _ e => h b o e
theorem But.trans {sp : Addr} {H H1 H2 : Hp} (a : But sp H H1) (b : But sp H1 H2) : But sp H H2 := fun c o n e => b c o n (a c o n e)
theorem But.refl {sp : Addr} {H : Hp} : But sp H H := fun _ _ _ e => e
theorem but_upd {sp : Addr} {H : Hp} {o : HO} : But sp H (upd H sp o) := fun b x n e => by
  rw [upd_ne n]
  exact e
theorem small {n : Nat} (h : n ≤ 1000000) : n < sizeLine := Nat.lt_of_le_of_lt h (by decide)
theorem smallE {n : Nat} (h : n ≤ 1000000) : n ≤ sizeLine := Nat.le_of_lt (small h)

/-! ### runs and states -/
abbrev Run := Str × Int
def RunV (H : Hp) (v : V) (r : Run) : Prop := ∃ t, v = .ref t ∧ H t = some (.tup [.str r.1, .int r.2])
def Runs (H : Hp) (a : Addr) (rs : List Run) : Prop := ∃ xs, H a = some (.lst xs) ∧ Paired (RunV H) xs rs
def StV (H : Hp) (v : V) : Option Run → Prop
  | none => v = .non
  | some r => RunV H v r
theorem RunV.same {H H' : Hp} {v : V} {r : Run} (s : Same H H') (h : RunV H v r) : RunV H' v r := by
  obtain ⟨t, e, h⟩ := h
  exact ⟨t, e, s _ _ h⟩
theorem Paired.len {α β : Type} {F : α → β → Prop} : ∀ {l₁ : List α} {l₂ : List β}, Paired F l₁ l₂ → l₁.length = l₂.length
  | _, _, .nil => rfl
  | _, _, .cons _ t => congrArg Nat.succ (Paired.len t)
theorem Paired.at {α β : Type} {F : α → β → Prop} : ∀ {l₁ : List α} {l₂ : List β} {i : Nat} {x : α}, Paired F l₁ l₂ → l₁[i]? = some x → ∃ y, l₂[i]? = some y ∧ F x y
  | _, _, _, _, .nil, h => by simp at h
  | _, _, 0, _, .cons h _, e => by
    simp only [List.getElem?_cons_zero, Option.some.injEq] at e
    subst e
    exact ⟨_, by simp, h⟩
  | _, _, i + 1, _, .cons _ t, e => by
    simp only [List.getElem?_cons_succ] at e ⊢
    exact Paired.at t e
theorem Paired.at' {α β : Type} {F : α → β → Prop} : ∀ {l₁ : List α} {l₂ : List β} {i : Nat} {y : β}, Paired F l₁ l₂ → l₂[i]? = some y → ∃ x, l₁[i]? = some x ∧ F x y
  | _, _, _, _, .nil, h => by simp at h
  | _, _, 0, _, .cons h _, e => by
    simp only [List.getElem?_cons_zero, Option.some.injEq] at e
    subst e
    exact ⟨_, by simp, h⟩
  | _, _, i + 1, _, .cons _ t, e => by
    simp only [List.getElem?_cons_succ] at e ⊢
    exact Paired.at' t e
theorem Paired.imp {α β : Type} {F G : α → β → Prop} (f : ∀ a b, F a b → G a b) : ∀ {l₁ : List α} {l₂ : List β}, Paired F l₁ l₂ → Paired G l₁ l₂
  | _, _, .nil => .nil
  | _, _, .cons h t => .cons (f _ _ h) (Paired.imp f t)
theorem Paired.app {α β : Type} {F : α → β → Prop} : ∀ {l₁ m₁ : List α} {l₂ m₂ : List β}, Paired F l₁ l₂ → Paired F m₁ m₂ → Paired F (l₁ ++ m₁) (l₂ ++ m₂)
  | _, _, _, _, .nil, h => h
  | _, _, _, _, .cons h t, k => .cons h (Paired.app t k)
theorem Paired.dropp {α β : Type} {F : α → β → Prop} : ∀ {l₁ : List α} {l₂ : List β} (n : Nat), Paired F l₁ l₂ → Paired F (l₁.drop n) (l₂.drop n)
  | _, _, 0, h => h
  | _, _, n + 1, .nil => .nil
  | _, _, n + 1, .cons _ t => by
    simp only [List.drop_succ_cons]
    exact Paired.dropp n t
theorem Paired.takep {α β : Type} {F : α → β → Prop} : ∀ {l₁ : List α} {l₂ : List β} (n : Nat), Paired F l₁ l₂ → Paired F (l₁.take n) (l₂.take n)
  | _, _, 0, h => by simp only [List.take_zero]; exact .nil
  | _, _, n + 1, .nil => .nil
  | _, _, n + 1, .cons h t => by
    simp only [List.take_succ_cons]
    exact .cons h (Paired.takep n t)
theorem Runs.same {H H' : Hp} {a : Addr} {rs : List Run} (s : Same H H') (h : Runs H a rs) : Runs H' a rs := by
  obtain ⟨xs, e, p⟩ := h
  exact ⟨xs, s _ _ e, Paired.imp (fun _ _ => RunV.same s) p⟩
theorem StV.same {H H' : Hp} {v : V} {st : Option Run} (s : Same H H') (h : StV H v st) : StV H' v st := by
  cases st with
  | none => exact h
  | some r => exact RunV.same s h
/-- the spring: a list of three ints -/
def Spr (H : Hp) (sp : Addr) : Prop := ∃ d s c : Int, H sp = some (.lst [.int d, .int s, .int c]) ∧ 0 ≤ d ∧ d.natAbs < 2 ^ 20000 ∧ 0 ≤ s ∧ s < 2305843009213693951
theorem RunV.but {H H' : Hp} {sp : Addr} {v : V} {r : Run} (z : Spr H sp) (s : But sp H H') (h : RunV H v r) : RunV H' v r := by
  obtain ⟨t, e, h⟩ := h
  obtain ⟨_, _, _, hs, _⟩ := z
  exact ⟨t, e, s _ _ (ne_of h hs (by intro q; cases q)) h⟩
theorem Runs.ne {H : Hp} {sp a : Addr} {rs : List Run} (z : Spr H sp) (h : Runs H a rs) : a ≠ sp := by
  obtain ⟨xs, e, p⟩ := h
  obtain ⟨d, s, c, hs, _⟩ := z
  refine ne_of e hs fun q => ?_
  have q := HO.lst.inj q
  subst q
  cases p with
  | cons h _ =>
    obtain ⟨t, e, _⟩ := h
    cases e
theorem Runs.but {H H' : Hp} {sp a : Addr} {rs : List Run} (z : Spr H sp) (s : But sp H H') (h : Runs H a rs) : Runs H' a rs := by
  have n := Runs.ne z h
  obtain ⟨xs, e, p⟩ := h
  exact ⟨xs, s _ _ n e, Paired.imp (fun _ _ => RunV.but z s) p⟩
theorem StV.but {H H' : Hp} {sp : Addr} {v : V} {st : Option Run} (z : Spr H sp) (s : But sp H H') (h : StV H v st) : StV H' v st := by
  cases st with
  | none => exact h
  | some r => exact RunV.but z s h
theorem Spr.same {H H' : Hp} {sp : Addr} (z : Spr H sp) (s : Same H H') : Spr H' sp := by
  obtain ⟨d, e, c, hs, r⟩ := z
  exact ⟨d, e, c, s _ _ hs, r⟩
def KindOk (s : Str) : Prop := 1 ≤ s.length ∧ s.length ≤ 8 ∧ ∀ c ∈ s.cps.toList, 97 ≤ c ∧ c ≤ 122
def RunOk (r : Run) : Prop := KindOk r.1 ∧ 1 ≤ r.2 ∧ r.2 ≤ 1000000000000000000000000000000
def Alt (rs : List Run) : Prop := ∀ (i : Nat) (x y : Run), rs[i]? = some x → rs[i + 1]? = some y → x.1 ≠ y.1
def SeqOk (rs : List Run) : Prop := rs.length ≤ 400 ∧ (∀ r ∈ rs, RunOk r) ∧ Alt rs
end UP

set_option Elab.async false
set_option linter.all false
set_option maxRecDepth 100000
set_option maxHeartbeats 4000000
namespace UP
open PySem PySem.Spec PyProof.Rows L2
/-! ### repr of plain data, where no other repr is under way -/
def rRepr (K : PySem.W.Frag) : List V → Hp → VK → Prop := fun xs H Q => ∃ (a : Addr) (d : PyData), xs = [.ref a] ∧ Dp K H (.ref a) d ∧ d.showable = true ∧ SeqAt.shaped d = true ∧ d.shown.length ≤ sizeLine ∧ Q (.str d.shown) H
theorem call_reprD {X : Cx} (hg : X.A.guards = some []) (hu : X.A.units + 70 < cLine) : CallR X (.builtin "repr") (rRepr X.K) := by
  intro pins s σ H xs us Q I r h
  obtain ⟨a, d, rfl, dp, sh, sp, sz, q⟩ := h
  obtain ⟨u, rfl, ru⟩ := vals1 r
  cases (show u = Value.ref a from ru)
  obtain ⟨as, rd⟩ := Dp.reads I d (.ref a) (.ref a) dp rfl
  have dd := SeqAt.depth_of_shaped sp
  refine repr_of_reads' rd sh (PyData.noDict_hsm (PyData.hasDict_of_canLay d (SeqAt.canLay_of_shaped sp))) hg (by omega) (fun _ _ e => e) (fun h' u tk hk => ?_) sz
  exact ⟨.str d.shown, H, I.kept (t' := tk) hk, ⟨u, rfl⟩, q⟩
/-! ### the law's own call, around it nothing -/
structure FnC (P : Program) (w : World) (K : PySem.W.Frag) (mg : Str → Option Value) (base : Heap) (f : Addr) (fd : FuncData) (ps : List Str) (sp : Sp) : Prop where
  go : ∀ (out : List Env) (s : Shared) (H : Hp) (args : Args) (us : List Value) (vs : List V) (Q : VK) (E : XK), Env0 P w K mg base callerA out s H → BindsTo s fd args (ps.zip us) → Vals vs us → sp vs H Q E →
    codeAny (model P w) callerA (.call (.ref f) args) (CR CX0 out P w H s Q E) s
theorem callerA_room : Room 8 callerA := ⟨rfl, by decide, by decide⟩
section
variable {P : Program} {w : World} {K : PySem.W.Frag} {mg : Str → Option Value} {base : Heap}
theorem fnC_of {x : Str} {st : Stmt} {f : Addr} {fd : FuncData} {ps N : List Str} {sp : Sp} (F : Fun K x x st f fd) (S : FnScope N ps (defScope st)) (len : ∀ vs H Q E, sp vs H Q E → vs.length = ps.length)
    (body : ∀ (cdv : Value) (out : List Env) (s : Shared) (H : Hp) (vs : List V) (Q : VK) (E : XK), Room 7 (callerA.deeper (envOfC x (defScope st) s.heap.objs.size f cdv)) → sp vs H Q E →
      ∃ t, PSs (cxOf CX0 P w K mg base N x (defScope st) f cdv callerA out s H E).nox (defBody st) t ∧ t { nx := fun _ H' => Q .non H', rt := Q } (start N vs) H) : FnC P w K mg base f fd ps sp := by
  obtain ⟨oc, od, kV, doc, pm, an, cdv, ct, osl, rfl, lk, hcd⟩ := F.ex
  refine ⟨fun out s H args us vs Q E e0 hb rv hsp => ?_⟩
  have inS : K.In s.heap := e0.mod.kin.keeps fun b o z => (e0.bs b o z).1
  have noL : s.heap.NoLimit := e0.mod.nolimit.keeps fun b o z => (e0.bs b o z).1
  have kinds : ∀ y ∈ ps.zip us, (defScope st).names.lookup y.1 = some .local ∨ ((defScope st).names.lookup y.1 = some .cell ∧ ((cellsFrom (s.heap.objs.size + 1) (defScope st).names []).lookup y.1).isSome = true) := by
    intro y hy
    rcases S.par y.1 (List.of_mem_zip (a := y.1) (b := y.2) hy).1 with z | z
    · exact Or.inl z
    · exact Or.inr ⟨z, PySem.W.cellsFrom_some _ _ _ (Or.inl z)⟩
  refine codeAny_call_function callerA_room.depth (inS _ _ lk) rfl S.co S.gen rfl (PySem.W.codeRec_of inS hcd) (hb _ _ _ _ ?_)
  refine wpAny_newFunctionEnv_cells S.kind kinds fun env he s1 inC => ?_
  subst he
  refine ⟨noL.keeps inC.toInCall.keep, codeAny_func ?_⟩
  obtain ⟨t, ht0, hq⟩ := body cdv out s H vs Q E (callerA_room.deeper _) hsp
  have ht := PSs.nox ht0
  have I0 : Inv (cxOf CX0 P w K mg base N x (defScope st) f cdv callerA out s H E) [] (start N vs) H s1 := inv_start S rfl e0 (len _ _ _ _ hsp) rv inC
  refine wpAny_mono (ht.run [] s1 (start N vs) H _ I0 hq) (fun fl s2 h2 => ?_) fun _ _ z => z
  cases fl with
  | next =>
    obtain ⟨σ2, H2, J, q2⟩ := h2
    exact ⟨V.non, H2, J.os, J.bare, J.base, J.hok, rfl, q2⟩
  | ret u =>
    obtain ⟨v, σ2, H2, J, rv2, q2⟩ := h2
    exact ⟨v, H2, J.os, J.bare, J.base, J.hok, rv2, q2⟩
  | brk =>
    obtain ⟨_, _, _, z⟩ := h2
    exact z.elim
  | cont =>
    obtain ⟨_, _, _, z⟩ := h2
    exact z.elim
end
/-- the heap that holds the script alone, locked -/
def oneH (a : Addr) (o : Obj) (xs : List V) : Hp := fun b => if b = a then some (.frz o (.lst xs)) else none
theorem run_law {P : Program} {w : World} {K : PySem.W.Frag} {mg mb : Str → Option Value} {fa a : Addr} {fd : FuncData} {x : Str} {sp : Sp} {s : Shared} {vs : List Value} {ns : List Int}
    (kx : K.In s.heap) (gns : s.heap.Ns mainGlobals mg) (bns : s.heap.Ns builtinsNs mb) (bb : ∀ y : Str, y ≠ "__name__" → mb y = bootBuiltins y) (nl : s.heap.NoLimit) (gens : s.gens = #[])
    (ob : s.heap.get? a = some { cls := .type "list", data := .seq vs.toArray }) (hin : IntsAre vs ns) (len : ns.length ≤ sizeLine) (F : ∀ base : Heap, K.In base → base.Ns mainGlobals mg → FnC P w K mg base fa fd [x] sp)
    (bind : ∀ (s : Shared) (u : Value), BindsTo s fd ⟨[u], []⟩ [(x, u)]) (hsp : ∀ H : Hp, SqL K H a (ns.map V.int) → sp [.ref a] H (fun v _ => v = .bl true) fun _ _ _ => False) :
    codeAny (model P w) callerA (.call (.ref fa) ⟨[.ref a], []⟩) (fun r s' => r = .ok (.ret (.bool true)) ∧ OldK s.heap s'.heap ∧ s'.os = s.os ∧ AllBare s'.gens) s := by
  have rel := vals_ints hin
  have step : ∀ H : Hp, (H = (fun _ => none) ∨ (H = oneH a { cls := .type "list", data := .seq vs.toArray } (ns.map V.int) ∧ K.lookup a = none)) → SqL K H a (ns.map V.int) → HOk P w H s.heap →
      codeAny (model P w) callerA (.call (.ref fa) ⟨[.ref a], []⟩) (fun r s' => r = .ok (.ret (.bool true)) ∧ OldK s.heap s'.heap ∧ s'.os = s.os ∧ AllBare s'.gens) s := by
    intro H hH hS hok
    have only : ∀ b u, H b = some u → b = a ∧ u = .frz { cls := .type "list", data := .seq vs.toArray } (.lst (ns.map V.int)) ∧ K.lookup a = none := by
      intro b u e
      rcases hH with z | ⟨z, z2⟩
      · rw [z] at e
        cases e
      · rw [z] at e
        by_cases hb : b = a
        · have e := (if_pos hb).symm.trans e
          cases e
          exact ⟨hb, rfl, z2⟩
        · have e := (if_neg hb).symm.trans e
          cases e
    have free : ∀ {b : Addr} {o : Obj}, s.heap.get? b = some o → (b = a → False) → (hidT s.heap H).get? b = some o := by
      intro b o e n
      refine hidT_get e ?_
      cases q : H b with
      | none => rfl
      | some u => exact (n (only b u q).1).elim
    have nss : ∀ {b : Addr} {m : Str → Option Value}, s.heap.Ns b m → (hidT s.heap H).Ns b m := by
      intro b m ⟨o, es, ep, e, d, r⟩
      refine ⟨o, es, ep, free e fun z => ?_, d, r⟩
      subst z
      rw [ob] at e
      cases e
      cases d
    have kb : K.In (hidT s.heap H) := by
      intro b o e
      refine hidT_get (kx b o e) ?_
      cases q : H b with
      | none => rfl
      | some u =>
        obtain ⟨z1, _, z2⟩ := only b u q
        rw [z1, z2] at e
        cases e
    have md : Mod K mg (hidT s.heap H) := ⟨kb, nss gns, ⟨mb, nss bns, bb⟩, by obtain ⟨mc, h1, h2⟩ := nl; exact ⟨mc, nss h1, h2⟩⟩
    have env : Env0 P w K mg (hidT s.heap H) callerA [] s H := ⟨rfl, md, fun b o e => of_hidT e, Nat.le_of_eq (hidT_size _ _), trivial, (fun b hb => by cases hb), hok, .of_eq gens⟩
    refine codeAny_mono ((F _ kb (nss gns)).go [] s H ⟨[.ref a], []⟩ [.ref a] [.ref a] _ _ env (bind s (.ref a)) (.cons rfl .nil) (hsp H hS)) fun r s' h => ?_
    cases r with
    | error e => exact h.elim
    | ok fl =>
      cases fl with
      | next => exact h.elim
      | brk => exact h.elim
      | cont => exact h.elim
      | ret u =>
        obtain ⟨v, H', o1, o2, un, hok', rv, q⟩ := h
        have q : v = .bl true := q
        subst q
        cases (show u = Value.bool true from rv)
        refine ⟨rfl, OldK.of_keep fun b o e => ?_, o1, o2⟩
        cases q : H b with
        | none => exact un.keep b o e q (fun z => by cases z) (fun z => by cases z)
        | some u =>
          obtain ⟨_, z, _⟩ := only b u q
          subst z
          obtain ⟨e1, _⟩ := hok b _ q
          obtain ⟨e2, _⟩ := hok' b _ (un.frzs b _ _ q)
          rw [e] at e1
          cases e1
          exact e2
  cases hk : K.lookup a with
  | some o =>
    have e := kx a o hk
    rw [ob] at e
    cases e
    refine step (fun _ => none) (.inl rfl) (.inr ⟨_, vs.toArray, _, hk, rfl, rfl, rfl, ?_, by simpa using rel⟩) fun b u z => by cases z
    rw [List.size_toArray, hin.length]
    exact len
  | none =>
    have at_a : oneH a { cls := .type "list", data := .seq vs.toArray } (ns.map V.int) a = some (.frz { cls := .type "list", data := .seq vs.toArray } (.lst (ns.map V.int))) := if_pos rfl
    refine step _ (.inr ⟨rfl, hk⟩) (.inl (.inr ⟨_, at_a⟩)) fun b u z => ?_
    by_cases hb : b = a
    · subst hb
      rw [at_a] at z
      cases z
      exact ⟨ob, by rw [List.length_map]; exact len, vs, _, rel, ob⟩
    · have z := (if_neg hb).symm.trans z
      cases z
theorem walkC {l : PySem.W.OpenLaw} {n : Nat} {q : Program} {loose : List Str} {XP : (Str → Option Value) → Heap → Prop} {YP : World → Heap → Prop} {d : DefRec} {K : Params → PySem.W.Frag} {sp : World → Sp} {x : Str}
    (hn : l.most = some n) (n2 : n ≤ sizeLine) (df : d.params.defaults = []) (hY : ∀ (w : World) (h : Heap), YP w h → (K w.params).In h)
    (F : ∀ (w : World) (mg : Str → Option Value) (fa : Addr) (h : Heap), (K w.params).In h → h.Ns mainGlobals mg → mg d.name = some (.ref fa) →
      ∃ fd : FuncData, (∀ (s : Shared) (u : Value), BindsTo s fd ⟨[u], []⟩ [(x, u)]) ∧ ∀ base : Heap, (K w.params).In base → base.Ns mainGlobals mg → FnC l.prog w (K w.params) mg base fa fd [x] (sp w))
    (hsp : ∀ (w : World) (H : Hp) (a : Addr) (ns : List Int), ns.length ≤ n → SqL (K w.params) H a (ns.map V.int) → sp w [.ref a] H (fun v _ => v = .bl true) fun _ _ _ => False) :
    PySem.W.WalkO q loose XP YP l.row.toRowW d [] (fun f vs => PySem.call f vs) := by
  refine Att.attach_call hn df fun w s₀ s mg mb fa o pm cd doc a vs ns G Y ho hd hcd hmg hobj hints hlen hg => ?_
  have kx := hY w _ Y
  obtain ⟨fd, hb, hF⟩ := F w mg fa _ kx G.T.g hmg
  exact run_law kx G.T.g G.T.b G.T.builtins G.T.nolimit hg hobj hints (Nat.le_trans hlen n2) hF hb fun H hS => hsp w H a ns hlen hS
end UP

set_option Elab.async false
set_option linter.all false
set_option maxRecDepth 100000
set_option maxHeartbeats 4000000
namespace UP
open PySem PySem.Spec PyProof.Rows L2
/-! ### lists or tuples -/
def Sq2 (H : Hp) (a : Addr) (xs : List V) : Prop := H a = some (.lst xs) ∨ H a = some (.tup xs)
theorem Sq2.same {H H' : Hp} {a : Addr} {xs : List V} (s : Same H H') (h : Sq2 H a xs) : Sq2 H' a xs := h.elim (fun z => .inl (s _ _ z)) (fun z => .inr (s _ _ z))
/-- a walk over the items xs, from the heap H on -/
structure Wk (J : It) (H : Hp) (xs : List V) : Prop where
  go : ∀ i H', Same H H' → i < xs.length → J.go i H'
  stop : ∀ H', Same H H' → J.stop xs.length H'
  yld : ∀ i x H' H'', Same H H' → J.yld i H' x H'' → H'' = H' ∧ xs[i]? = some x
theorem wk_list {K : PySem.W.Frag} {H : Hp} {a : Addr} {xs : List V} (h : H a = some (.lst xs)) : Wk (Itl K a) H xs :=
  ⟨fun i H' s hi => ⟨xs, xs[i], .of (s _ _ h), List.getElem?_eq_getElem hi⟩, fun H' s => ⟨xs, .of (s _ _ h), Nat.le_refl _⟩, fun i x H' H'' s y => ⟨y.1, y.2 xs (.of (s _ _ h))⟩⟩
theorem wk_tup {K : PySem.W.Frag} {H : Hp} {a : Addr} {xs : List V} (h : H a = some (.tup xs)) : Wk (Itt K a) H xs :=
  ⟨fun i H' s hi => ⟨xs, xs[i], .of (s _ _ h), List.getElem?_eq_getElem hi⟩, fun H' s => ⟨xs, .of (s _ _ h), Nat.le_refl _⟩, fun i x H' H'' s y => ⟨y.1, y.2 xs (.of (s _ _ h))⟩⟩
def iSeqV (i : Nat) : TI := fun σ H R => ∃ a xs, σ[i]? = some (some (.ref a)) ∧ Sq2 H a xs ∧ ∀ J, Wk J H xs → R J H
section
variable {X : Cx}
theorem pi_seqV (i : Nat) {x : Str} {pos : Pos} {tg : Expr} (hN : X.N[i]? = some x := by rfl) (hv : Vis X.env.scope x := by first | exact Or.inl rfl | exact Or.inr (Or.inl rfl) | exact Or.inr (Or.inr rfl)) (hd : (x == ("__debug__" : Str)) = false := by decide)
    (hc : (x == ("__classdict__" : Str)) = false := by decide) : PI X tg (.Name x pos) (iSeqV i) := by
  refine ⟨fun pins s σ H R I hw => ?_⟩
  obtain ⟨a, xs, e, h, k⟩ := hw
  rcases h with h | h
  · exact (pi_list (pe_var hN hv hd hc)).run pins s σ H R I ⟨_, e, a, rfl, ⟨xs, .of h⟩, k _ (wk_list h)⟩
  · exact (pi_tup (pe_var hN hv hd hc)).run pins s σ H R I ⟨_, e, a, rfl, ⟨xs, .of h⟩, k _ (wk_tup h)⟩
def gAny (n : Nat) (t : TGs) : TG := fun v σ H Q => ∃ a xs, v = .ref a ∧ Sq2 H a xs ∧ xs.length = n ∧ t xs σ H Q
theorem pg_any {es : List Expr} {k n : Nat} {t : TGs} {pos : Pos} (hc : X.calm = true) (h : PGs X es t) (hn : (assignEach es X.env).length = n := by rfl) (hst : (assignEach es X.env).findIdx? (fun z => z.1) = none := by rfl) : PG X (.Tuple es k pos) (gAny n t) := by
  refine ⟨fun pins s σ H v u Q I r hw => ?_⟩
  obtain ⟨a, xs, e, hx, hl, hw⟩ := hw
  rcases hx with z | z
  · exact (pg_unl hc h hn hst).run pins s σ H v u Q I r ⟨a, xs, e, .of z, hl, hw⟩
  · exact (pg_tup hc h hn hst).run pins s σ H v u Q I r ⟨a, xs, e, .of z, hl, hw⟩
/-- zip(x, x[1:]) -/
structure WkZ (J : It) (H : Hp) (xs : List V) : Prop where
  go : ∀ i H', Same H H' → i + 1 < xs.length → J.go i H'
  stop : ∀ H', Same H H' → J.stop (xs.length - 1) H'
  yld : ∀ i x H' H'', Same H H' → J.yld i H' x H'' → ∃ T x1 x2, x = .ref T ∧ H' T = none ∧ H'' = upd H' T (.tup [x1, x2]) ∧ xs[i]? = some x1 ∧ (i + 1 < xs.length → xs[i + 1]? = some x2)
def iZip1 (i : Nat) : TI := fun σ H R => ∃ a xs, σ[i]? = some (some (.ref a)) ∧ Sq2 H a xs ∧ ∀ J H', Same H H' → WkZ J H' xs → R J H'
theorem cutt_one (xs : List V) : cutV xs (some 1) none = xs.drop 1 := by
  have e : HT.sIx xs.length 0 (some 1) = min 1 xs.length := HT.sIx_nat xs.length 0 1
  unfold cutV
  rw [e, HT.sIx_none]
  cases xs with
  | nil => rfl
  | cons x r =>
    have e1 : min 1 (x :: r).length = 1 := by simp only [List.length_cons]; omega
    rw [e1]
    simp
theorem pi_zip1 {i : Nat} {tg it : Expr} {tl th : TO} (h : PI X tg it (RZ.iZipA X.K (tCons (tVar i) (tCons (tSl (fun x lo hi H Q => rSlL X.K x lo hi H Q ∨ rSlA X.K x lo hi H Q) (tVar i) tl th) tNil))))
    (h1 : ∀ (σ : L2.St) (H : Hp) (Q : Option Int → Hp → Prop), Q (some 1) H → tl σ H Q) (h2 : ∀ (σ : L2.St) (H : Hp) (Q : Option Int → Hp → Prop), Q none H → th σ H Q) : PI X tg it (iZip1 i) := by
  refine ⟨fun pins s σ H R I hw => h.run pins s σ H R I ?_⟩
  obtain ⟨a, xs, e, hx, k⟩ := hw
  refine ⟨_, e, _, e, h1 σ H _ (h2 σ H _ ?_)⟩
  have gn : ∀ j : Nat, (xs.drop 1)[j]? = xs[j + 1]? := fun j => by rw [List.getElem?_drop, Nat.add_comm 1 j]
  rcases hx with hx | hx
  · refine .inl ⟨a, xs, rfl, .of hx, fun c nc => ?_⟩
    have sc : Same H (upd H c (.lst (cutV xs (some 1) none))) := fun b o z => by rw [upd_ne (ne_of_none z nc)]; exact z
    have hc : (upd H c (.lst (cutV xs (some 1) none))) c = some (.lst (xs.drop 1)) := by rw [upd_same, cutt_one]
    refine ⟨a, c, xs, xs.drop 1, rfl, .inl ⟨.of (sc _ _ hx), .of hc, k _ _ sc ⟨fun j H' sj hj => ?_, fun H' sj => ?_, fun j x H' H'' sj y => ?_⟩⟩⟩
    · exact ⟨xs, xs.drop 1, xs[j], xs[j + 1], .of (sj _ _ (sc _ _ hx)), .of (sj _ _ hc), List.getElem?_eq_getElem (by omega), by rw [gn]; exact List.getElem?_eq_getElem hj⟩
    · exact ⟨xs, xs.drop 1, .of (sj _ _ (sc _ _ hx)), .of (sj _ _ hc), .inr (by rw [List.length_drop]; exact Nat.le_refl _)⟩
    · obtain ⟨T, x1, x2, e1, e2, e3, f1, f2⟩ := y
      exact ⟨T, x1, x2, e1, e2, e3, f1 xs (.of (sj _ _ (sc _ _ hx))), fun _ => by rw [← gn]; exact f2 _ (.of (sj _ _ hc))⟩
  · refine .inr ⟨a, xs, rfl, .of hx, fun z => ?_, fun z c nc => ?_⟩
    · have lz : xs.length = 0 := by
        have z1 := z.1
        rw [show HT.sIx xs.length 0 (some 1) = min 1 xs.length from HT.sIx_nat xs.length 0 1] at z1
        omega
      refine ⟨a, a, xs, xs, rfl, .inr ⟨.of hx, .of hx, k _ _ (Same.refl _) ⟨fun j H' sj hj => by omega, fun H' sj => ⟨xs, xs, .of (sj _ _ hx), .of (sj _ _ hx), .inl (by omega)⟩, fun j x H' H'' sj y => ?_⟩⟩⟩
      obtain ⟨T, x1, x2, e1, e2, e3, f1, f2⟩ := y
      exact ⟨T, x1, x2, e1, e2, e3, f1 xs (.of (sj _ _ hx)), fun hj => by omega⟩
    · have sc : Same H (upd H c (.tup (cutV xs (some 1) none))) := fun b o z => by rw [upd_ne (ne_of_none z nc)]; exact z
      have hc : (upd H c (.tup (cutV xs (some 1) none))) c = some (.tup (xs.drop 1)) := by rw [upd_same, cutt_one]
      refine ⟨a, c, xs, xs.drop 1, rfl, .inr ⟨.of (sc _ _ hx), .of hc, k _ _ sc ⟨fun j H' sj hj => ?_, fun H' sj => ?_, fun j x H' H'' sj y => ?_⟩⟩⟩
      · exact ⟨xs, xs.drop 1, xs[j], xs[j + 1], .of (sj _ _ (sc _ _ hx)), .of (sj _ _ hc), List.getElem?_eq_getElem (by omega), by rw [gn]; exact List.getElem?_eq_getElem hj⟩
      · exact ⟨xs, xs.drop 1, .of (sj _ _ (sc _ _ hx)), .of (sj _ _ hc), .inr (by rw [List.length_drop]; exact Nat.le_refl _)⟩
      · obtain ⟨T, x1, x2, e1, e2, e3, f1, f2⟩ := y
        exact ⟨T, x1, x2, e1, e2, e3, f1 xs (.of (sj _ _ (sc _ _ hx))), fun _ => by rw [← gn]; exact f2 _ (.of (sj _ _ hc))⟩
end
/-! ### runs and states, dressed -/
def RunG (H : Hp) (v : V) (r : Run) : Prop := ∃ t, v = .ref t ∧ Sq2 H t [.str r.1, .int r.2]
def RunsG (H : Hp) (v : V) (rs : List Run) : Prop := ∃ a xs, v = .ref a ∧ Sq2 H a xs ∧ Paired (RunG H) xs rs
def StG (H : Hp) (v : V) : Option Run → Prop
  | none => v = .non
  | some r => RunG H v r
theorem RunG.same {H H' : Hp} {v : V} {r : Run} (s : Same H H') (h : RunG H v r) : RunG H' v r := by
  obtain ⟨t, e, h⟩ := h
  exact ⟨t, e, h.same s⟩
theorem RunsG.same {H H' : Hp} {v : V} {rs : List Run} (s : Same H H') (h : RunsG H v rs) : RunsG H' v rs := by
  obtain ⟨a, xs, e, hx, p⟩ := h
  exact ⟨a, xs, e, hx.same s, Paired.imp (fun _ _ => RunG.same s) p⟩
theorem StG.same {H H' : Hp} {v : V} {st : Option Run} (s : Same H H') (h : StG H v st) : StG H' v st := by
  cases st with
  | none => exact h
  | some r => exact RunG.same s h
theorem RunV.dress {H : Hp} {v : V} {r : Run} (h : RunV H v r) : RunG H v r := by
  obtain ⟨t, e, h⟩ := h
  exact ⟨t, e, .inr h⟩
theorem Runs.dress {H : Hp} {a : Addr} {rs : List Run} (h : Runs H a rs) : RunsG H (.ref a) rs := by
  obtain ⟨xs, hx, p⟩ := h
  exact ⟨a, xs, rfl, .inl hx, Paired.imp (fun _ _ => RunV.dress) p⟩
theorem StV.dress {H : Hp} {v : V} {st : Option Run} (h : StV H v st) : StG H v st := by
  cases st with
  | none => exact h
  | some r => exact RunV.dress h
theorem Sq2.but {H H' : Hp} {sp a : Addr} {xs : List V} (z : Spr H sp) (s : But sp H H') (h : Sq2 H a xs) (n : ∀ d e f, xs ≠ [.int d, .int e, .int f]) : Sq2 H' a xs := by
  obtain ⟨d, e, f, hs, _⟩ := z
  rcases h with h | h
  · exact .inl (s _ _ (ne_of h hs fun q => n d e f (HO.lst.inj q)) h)
  · exact .inr (s _ _ (ne_of h hs fun q => by cases q) h)
theorem RunG.but {H H' : Hp} {sp : Addr} {v : V} {r : Run} (z : Spr H sp) (s : But sp H H') (h : RunG H v r) : RunG H' v r := by
  obtain ⟨t, e, h⟩ := h
  exact ⟨t, e, h.but z s fun _ _ _ q => by cases q⟩
theorem RunsG.but {H H' : Hp} {sp : Addr} {v : V} {rs : List Run} (z : Spr H sp) (s : But sp H H') (h : RunsG H v rs) : RunsG H' v rs := by
  obtain ⟨a, xs, e, hx, p⟩ := h
  refine ⟨a, xs, e, hx.but z s fun d _ _ q => ?_, Paired.imp (fun _ _ => RunG.but z s) p⟩
  subst q
  cases p with
  | cons h _ =>
    obtain ⟨_, e, _⟩ := h
    cases e
theorem StG.but {H H' : Hp} {sp : Addr} {v : V} {st : Option Run} (z : Spr H sp) (s : But sp H H') (h : StG H v st) : StG H' v st := by
  cases st with
  | none => exact h
  | some r => exact RunG.but z s h
end UP

set_option Elab.async false
set_option linter.all false
set_option maxRecDepth 100000
set_option maxHeartbeats 4000000
namespace UP
open PySem PySem.Spec PyProof.Rows L2
def topS (i : Nat) : Stmt := PySem.Challenge.pw_unlikepairs_k55_text_errors.main.body.getD i (.Pass ⟨0, 0, 0, 0⟩)
structure Tx (mg : Str → Option Value) : Prop where
  n_isinstance : mg "isinstance" = none
  n_int : mg "int" = none
  n_bool : mg "bool" = none
  n_str : mg "str" = none
  n_list : mg "list" = none
  n_tuple : mg "tuple" = none
  n_len : mg "len" = none
  n_all : mg "all" = none
  n_zip : mg "zip" = none
  n_sum : mg "sum" = none
  n_min : mg "min" = none
  n_max : mg "max" = none
  n_abs : mg "abs" = none
  n_range : mg "range" = none
  n_repr : mg "repr" = none
  n_enumerate : mg "enumerate" = none
  n_any : mg "any" = none
  n_dict : mg "dict" = none
  n_sorted : mg "sorted" = none
  n_set : mg "set" = none
  n_reversed : mg "reversed" = none
  n_ValueError : mg "ValueError" = none
  n_ord : mg "ord" = none
  c_MAX_LETTERS : ∃ t, mg "MAX_LETTERS" = some (.int 8 t)
  c_MAX_RUNS : ∃ t, mg "MAX_RUNS" = some (.int 400 t)
  c_MAX_COUNT : ∃ t, mg "MAX_COUNT" = some (.int 1000000000000000000000000000000 t)
  c_MAX_ENTRIES : ∃ t, mg "MAX_ENTRIES" = some (.int 400 t)
/-! ### values of any form that a menu holds -/
inductive Dat where
  | non
  | bl (b : Bool)
  | int (n : Int)
  | str (z : Str)
  | dic
  | lst (l : List Dat)
  | tup (l : List Dat)
inductive Rp (H : Hp) : V → Dat → Prop where
  | non : Rp H .non .non
  | bl (b : Bool) : Rp H (.bl b) (.bl b)
  | int (n : Int) : Rp H (.int n) (.int n)
  | str (z : Str) : Rp H (.str z) (.str z)
  | dic {a : Addr} (e : H a = some (.dK [])) : Rp H (.ref a) .dic
  | lst {a : Addr} {xs : List V} {l : List Dat} (e : H a = some (.lst xs)) (h : Paired (Rp H) xs l) : Rp H (.ref a) (.lst l)
  | tup {a : Addr} {xs : List V} {l : List Dat} (e : H a = some (.tup xs)) (h : Paired (Rp H) xs l) : Rp H (.ref a) (.tup l)
theorem Rp.same {H H' : Hp} (s : Same H H') {v : V} {d : Dat} (h : Rp H v d) : Rp H' v d := by
  refine Rp.rec (motive_1 := fun v d _ => Rp H' v d) (motive_2 := fun xs l _ => Paired (Rp H') xs l) .non .bl .int .str ?_ ?_ ?_ .nil ?_ h
  · intro a e
    exact .dic (s _ _ e)
  · intro a xs l e _ ih
    exact .lst (s _ _ e) ih
  · intro a xs l e _ ih
    exact .tup (s _ _ e) ih
  · intro x y xs ys _ _ h1 h2
    exact .cons h1 h2
def Dat.isI : Dat → Bool
  | .int _ => true
  | _ => false
def Dat.inI (lo hi : Int) : Dat → Bool
  | .int n => decide (lo ≤ n ∧ n ≤ hi)
  | _ => false
/-- its parts, if it is a list or a tuple -/
def Dat.parts : Dat → Option (List Dat)
  | .lst l => some l
  | .tup l => some l
  | _ => none
def Dat.listed (d : Dat) (m : Int) : Bool := match d.parts with
  | some l => decide ((l.length : Int) ≤ m)
  | none => false
def Dat.couple (d : Dat) : Bool := match d.parts with
  | some l => decide (l.length = 2)
  | none => false
/-- the name of its type -/
def Dat.ty : Dat → String
  | .non => "NoneType"
  | .bl _ => "bool"
  | .int _ => "int"
  | .str _ => "str"
  | .dic => "dict"
  | .lst _ => "list"
  | .tup _ => "tuple"
theorem Rp.tyx {K : PySem.W.Frag} {H : Hp} {v : V} {d : Dat} (h : Rp H v d) : TyX K H v (.type d.ty) := by
  cases h with
  | non => exact .base .non
  | bl b => exact .base (.bl b)
  | int n => exact .base (.int n)
  | str z => exact .base (.str z)
  | dic e => exact .base (.dK e)
  | lst e _ => exact .base (.lst e)
  | tup e _ => exact .base (.tup e)
theorem kit_lst {K : PySem.W.Frag} : PySem.W.kitAny K (.type "list") [.type "list", .type "tuple"] = some true := kitAny_cons (b := true) (kit_ty (by decide +kernel)) (fun z => nomatch z) (fun _ => rfl)
theorem kit_tup {K : PySem.W.Frag} : PySem.W.kitAny K (.type "tuple") [.type "list", .type "tuple"] = some true := kitAny_cons (b := false) (kit_ty (by decide +kernel)) (fun _ => kitAny_cons (b := true) (kit_ty (by decide +kernel)) (fun z => nomatch z) (fun _ => rfl)) (fun z => nomatch z)
theorem kit_no {K : PySem.W.Frag} {n : String} (h1 : kitB n "list" = some false) (h2 : kitB n "tuple" = some false) : PySem.W.kitAny K (.type n) [.type "list", .type "tuple"] = some false := kitAny_cons (b := false) (kit_ty h1) (fun _ => kitAny_cons (b := false) (kit_ty h2) (fun _ => rfl) (fun z => nomatch z)) (fun z => nomatch z)
theorem Rp.noSeq {K : PySem.W.Frag} {H : Hp} {v : V} {d : Dat} (h : Rp H v d) (hd : d.parts = none) : ∃ t, TyX K H v t ∧ PySem.W.kitAny K t [.type "list", .type "tuple"] = some false := by
  cases h with
  | non => exact ⟨_, .base .non, kit_no (by decide +kernel) (by decide +kernel)⟩
  | bl b => exact ⟨_, .base (.bl b), kit_no (by decide +kernel) (by decide +kernel)⟩
  | int n => exact ⟨_, .base (.int n), kit_no (by decide +kernel) (by decide +kernel)⟩
  | str z => exact ⟨_, .base (.str z), kit_no (by decide +kernel) (by decide +kernel)⟩
  | dic e => exact ⟨_, .base (.dK e), kit_no (by decide +kernel) (by decide +kernel)⟩
  | lst e _ => cases hd
  | tup e _ => cases hd
theorem Rp.seq {H : Hp} {v : V} {d : Dat} (h : Rp H v d) {l : List Dat} (hd : d.parts = some l) : ∃ a xs, v = .ref a ∧ Sq2 H a xs ∧ Paired (Rp H) xs l := by
  cases h with
  | non => cases hd
  | bl b => cases hd
  | int n => cases hd
  | str z => cases hd
  | dic e => cases hd
  | lst e h => cases hd; exact ⟨_, _, rfl, .inl e, h⟩
  | tup e h => cases hd; exact ⟨_, _, rfl, .inr e, h⟩
theorem giP {b : Bool} {A B : Prop} (h : b = true) (x : A) : if b = true then A else B := by
  rw [if_pos h]
  exact x
theorem giN {b : Bool} {A B : Prop} (h : b = false) (x : B) : if b = true then A else B := by
  rw [if_neg (by rw [h]; decide)]
  exact x
section
variable {P : Program} {w : World} {K : PySem.W.Frag} {mg : Str → Option Value} {base : Heap}
/-! is_whole: slots 0:value -/
abbrev s_is_whole : Stmt := topS 25
theorem sc_is_whole : FnScope ["value"] ["value"] (defScope s_is_whole) := ⟨rfl, rfl, rfl, by decide +kernel, rfl, by decide +kernel, by decide +kernel⟩
def sp_is_whole : Sp := fun vs H Q _ => ∃ (v : V) (d : Dat), vs = [v] ∧ Rp H v d ∧ Q (.bl d.isI) H
theorem ok_is_whole (D : Df K mg "is_whole" s_is_whole) (T : Tx mg) : Has P w K mg base 1 "is_whole" ["value"] sp_is_whole := by
  refine has_of D sc_is_whole (fun _ _ _ _ _ _ us hl => match us, hl with | [_], _ => rfl) (fun vs H Q E h => ?_) (fun f cdv A outer s H vs Q E hr h => ?_)
  · obtain ⟨v, d, rfl, _⟩ := h
    rfl
  · obtain ⟨v, d, rfl, hv, q⟩ := h
    refine ⟨_, (pss_one (ps_ret (pe_and (pe_callB call_isi (by rfl) T.n_isinstance (by decide +kernel) (pa_cons (pv 0) (pa_cons (pe_bltn (v := .ty "int") (by rfl) T.n_int (by decide +kernel) rfl) pa_nil))) (pe_one (pe_not (pe_callB call_isi (by rfl) T.n_isinstance (by decide +kernel) (pa_cons (pv 0) (pa_cons (pe_bltn (v := .ty "bool") (by rfl) T.n_bool (by decide +kernel) rfl) pa_nil)))))))), ?_⟩
    cases hv with
    | int n => exact ⟨_, rfl, _, _, _, _, true, rfl, .ty "int", .base (.int n), kit_ty (by decide +kernel), true, rfl, iteT ⟨_, rfl, _, _, _, _, false, rfl, .ty "bool", .base (.int n), kit_ty (by decide +kernel), false, rfl, q⟩⟩
    | bl b => exact ⟨_, rfl, _, _, _, _, true, rfl, .ty "int", .base (.bl b), kit_ty (by decide +kernel), true, rfl, iteT ⟨_, rfl, _, _, _, _, true, rfl, .ty "bool", .base (.bl b), kit_ty (by decide +kernel), true, rfl, q⟩⟩
    | non => exact ⟨_, rfl, _, _, _, _, false, rfl, .ty "int", .base .non, kit_ty (by decide +kernel), false, rfl, iteF q⟩
    | str z => exact ⟨_, rfl, _, _, _, _, false, rfl, .ty "int", .base (.str z), kit_ty (by decide +kernel), false, rfl, iteF q⟩
    | dic e => exact ⟨_, rfl, _, _, _, _, false, rfl, .ty "int", .base (.dK e), kit_ty (by decide +kernel), false, rfl, iteF q⟩
    | lst e h => exact ⟨_, rfl, _, _, _, _, false, rfl, .ty "int", .base (.lst e), kit_ty (by decide +kernel), false, rfl, iteF q⟩
    | tup e h => exact ⟨_, rfl, _, _, _, _, false, rfl, .ty "int", .base (.tup e), kit_ty (by decide +kernel), false, rfl, iteF q⟩
/-! is_within: slots 0:value 1:low 2:high -/
abbrev s_is_within : Stmt := topS 26
theorem sc_is_within : FnScope ["value", "low", "high"] ["value", "low", "high"] (defScope s_is_within) := ⟨rfl, rfl, rfl, by decide +kernel, rfl, by decide +kernel, by decide +kernel⟩
def sp_is_within : Sp := fun vs H Q _ => ∃ (v : V) (d : Dat) (lo hi : Int), vs = [v, .int lo, .int hi] ∧ Rp H v d ∧ Q (.bl (d.inI lo hi)) H
theorem ok_is_within (D : Df K mg "is_within" s_is_within) (G_is_whole : Has P w K mg base 1 "is_whole" ["value"] sp_is_whole) : Has P w K mg base 2 "is_within" ["value", "low", "high"] sp_is_within := by
  refine has_of D sc_is_within (fun _ _ _ _ _ _ us hl => match us, hl with | [_, _, _], _ => rfl) (fun vs H Q E h => ?_) (fun f cdv A outer s H vs Q E hr h => ?_)
  · obtain ⟨v, d, lo, hi, rfl, _⟩ := h
    rfl
  · obtain ⟨v, d, lo, hi, rfl, hv, q⟩ := h
    refine ⟨_, (pss_one (ps_ret (pe_and (pe_callH G_is_whole (hr.mono (by omega)) (by rfl) (pa_cons (pv 0) pa_nil)) (pe_one (pe_chain op_le op_le (pv 1) (pv 0) (pv 2)))))), ?_⟩
    refine ⟨_, rfl, v, d, rfl, hv, d.isI, rfl, ?_⟩
    by_cases ci : d.isI = true
    · refine giP ci ?_
      cases hv with
      | int n =>
        refine ⟨_, rfl, _, rfl, _, _, rfl, rfl, _, rfl, ite2 (fun e => ?_) (fun e => ?_)⟩
        · have e := of_decide_eq_true e
          refine ⟨_, rfl, _, _, rfl, rfl, ?_⟩
          show Q (.bl (decide (n ≤ hi))) H
          rw [show decide (n ≤ hi) = (Dat.int n).inI lo hi by show _ = decide (lo ≤ n ∧ n ≤ hi); simp [e]]
          exact q
        · have e : ¬ lo ≤ n := fun z => e (decide_eq_true z)
          show Q (.bl false) H
          rw [show false = (Dat.int n).inI lo hi by show _ = decide (lo ≤ n ∧ n ≤ hi); simp [e]]
          exact q
      | _ => cases ci
    · refine giN (by simpa using ci) ?_
      have e : d.inI lo hi = false := by
        cases d with
        | int n => exact absurd rfl ci
        | _ => rfl
      rw [e] at q
      exact q
/-! is_listed: slots 0:value 1:most -/
abbrev s_is_listed : Stmt := topS 27
theorem sc_is_listed : FnScope ["value", "most"] ["value", "most"] (defScope s_is_listed) := ⟨rfl, rfl, rfl, by decide +kernel, rfl, by decide +kernel, by decide +kernel⟩
def sp_is_listed : Sp := fun vs H Q _ => ∃ (v : V) (d : Dat) (m : Int), vs = [v, .int m] ∧ Rp H v d ∧ ∀ H', Same H H' → Q (.bl (d.listed m)) H'
theorem ok_is_listed (D : Df K mg "is_listed" s_is_listed) (T : Tx mg) : Has P w K mg base 1 "is_listed" ["value", "most"] sp_is_listed := by
  refine has_of D sc_is_listed (fun _ _ _ _ _ _ us hl => match us, hl with | [_, _], _ => rfl) (fun vs H Q E h => ?_) (fun f cdv A outer s H vs Q E hr h => ?_)
  · obtain ⟨v, d, m, rfl, _⟩ := h
    rfl
  · obtain ⟨v, d, m, rfl, hv, q⟩ := h
    refine ⟨_, (pss_one (ps_ret (pe_and (pe_callB call_isiT (by rfl) T.n_isinstance (by decide +kernel) (pa_cons (pv 0) (pa_cons (pe_tup (pa_cons (pe_bltn (v := .ty "list") (by rfl) T.n_list (by decide +kernel) rfl) (pa_cons (pe_bltn (v := .ty "tuple") (by rfl) T.n_tuple (by decide +kernel) rfl) pa_nil))) pa_nil))) (pe_one (pe_cmpR op_le (pe_callB call_len_seq (by rfl) T.n_len (by decide +kernel) (pa_cons (pv 0) pa_nil)) (pv 1) (nomark _)))))), ?_⟩
    refine ⟨_, rfl, (by show 2 ≤ sizeLine; decide), fun t nt => ?_⟩
    have q := q _ (same_upd (o := .tup [.ty "list", .ty "tuple"]) nt)
    have hv := hv.same (same_upd (o := .tup [.ty "list", .ty "tuple"]) nt)
    cases hd : d.parts with
    | none =>
      obtain ⟨tv, h1, h2⟩ := hv.noSeq (K := K) hd
      refine ⟨_, t, _, _, _, false, rfl, upd_same, .cons (.ty "list") (.cons (.ty "tuple") .nil), h1, h2, false, rfl, iteF ?_⟩
      rw [show d.listed m = false by unfold Dat.listed; rw [hd]] at q
      exact q
    | some l =>
      obtain ⟨a, xs, rfl, hx, hp⟩ := hv.seq hd
      have ll : xs.length = l.length := Paired.len hp
      rw [show d.listed m = decide ((xs.length : Int) ≤ m) by unfold Dat.listed; rw [hd, ll]] at q
      rcases hx with hx | hx
      · refine ⟨_, t, _, _, _, true, rfl, upd_same, .cons (.ty "list") (.cons (.ty "tuple") .nil), .base (.lst hx), kit_lst, true, rfl, iteT ?_⟩
        exact ⟨_, rfl, _, _, rfl, .inl (.of hx), _, rfl, _, _, rfl, rfl, q⟩
      · refine ⟨_, t, _, _, _, true, rfl, upd_same, .cons (.ty "list") (.cons (.ty "tuple") .nil), .base (.tup hx), kit_tup, true, rfl, iteT ?_⟩
        exact ⟨_, rfl, _, _, rfl, .inr (.of hx), _, rfl, _, _, rfl, rfl, q⟩
/-! is_couple: slots 0:value -/
abbrev s_is_couple : Stmt := topS 28
theorem sc_is_couple : FnScope ["value"] ["value"] (defScope s_is_couple) := ⟨rfl, rfl, rfl, by decide +kernel, rfl, by decide +kernel, by decide +kernel⟩
def sp_is_couple : Sp := fun vs H Q _ => ∃ (v : V) (d : Dat), vs = [v] ∧ Rp H v d ∧ ∀ H', Same H H' → Q (.bl d.couple) H'
theorem ok_is_couple (D : Df K mg "is_couple" s_is_couple) (T : Tx mg) : Has P w K mg base 1 "is_couple" ["value"] sp_is_couple := by
  refine has_of D sc_is_couple (fun _ _ _ _ _ _ us hl => match us, hl with | [_], _ => rfl) (fun vs H Q E h => ?_) (fun f cdv A outer s H vs Q E hr h => ?_)
  · obtain ⟨v, d, rfl, _⟩ := h
    rfl
  · obtain ⟨v, d, rfl, hv, q⟩ := h
    refine ⟨_, (pss_one (ps_ret (pe_and (pe_callB call_isiT (by rfl) T.n_isinstance (by decide +kernel) (pa_cons (pv 0) (pa_cons (pe_tup (pa_cons (pe_bltn (v := .ty "list") (by rfl) T.n_list (by decide +kernel) rfl) (pa_cons (pe_bltn (v := .ty "tuple") (by rfl) T.n_tuple (by decide +kernel) rfl) pa_nil))) pa_nil))) (pe_one (pe_cmpR op_eq (pe_callB call_len_seq (by rfl) T.n_len (by decide +kernel) (pa_cons (pv 0) pa_nil)) pe_int (nomark _)))))), ?_⟩
    refine ⟨_, rfl, (by show 2 ≤ sizeLine; decide), fun t nt => ?_⟩
    have q := q _ (same_upd (o := .tup [.ty "list", .ty "tuple"]) nt)
    have hv := hv.same (same_upd (o := .tup [.ty "list", .ty "tuple"]) nt)
    cases hd : d.parts with
    | none =>
      obtain ⟨tv, h1, h2⟩ := hv.noSeq (K := K) hd
      refine ⟨_, t, _, _, _, false, rfl, upd_same, .cons (.ty "list") (.cons (.ty "tuple") .nil), h1, h2, false, rfl, iteF ?_⟩
      rw [show d.couple = false by unfold Dat.couple; rw [hd]] at q
      exact q
    | some l =>
      obtain ⟨a, xs, rfl, hx, hp⟩ := hv.seq hd
      have ll : xs.length = l.length := Paired.len hp
      have eb : decide (V.int (xs.length : Int) = V.int 2) = d.couple := by
        unfold Dat.couple
        rw [hd]
        show _ = decide (l.length = 2)
        rw [← ll]
        exact decide_eq_decide.mpr ⟨fun z => by have := V.int.inj z; omega, fun z => by rw [z]; rfl⟩
      rw [← eb] at q
      rcases hx with hx | hx
      · exact ⟨_, t, _, _, _, true, rfl, upd_same, .cons (.ty "list") (.cons (.ty "tuple") .nil), .base (.lst hx), kit_lst, true, rfl, iteT ⟨_, rfl, _, _, rfl, .inl (.of hx), rfl, q⟩⟩
      · exact ⟨_, t, _, _, _, true, rfl, upd_same, .cons (.ty "list") (.cons (.ty "tuple") .nil), .base (.tup hx), kit_tup, true, rfl, iteT ⟨_, rfl, _, _, rfl, .inr (.of hx), rfl, q⟩⟩
end
end UP

set_option Elab.async false
set_option linter.all false
set_option maxRecDepth 100000
set_option maxHeartbeats 4000000
namespace UP
open PySem PySem.Spec PyProof.Rows L2
theorem iteP {b : Bool} {A B : Prop} (h : b = true) (x : A) : if b = true then A else B := by
  rw [if_pos h]
  exact x
theorem iteN {b : Bool} {A B : Prop} (h : b = false) (x : B) : if b = true then A else B := by
  rw [if_neg (by rw [h]; decide)]
  exact x
theorem yesT {σ : L2.St} {H : Hp} {A B : Hp → Prop} (h : A H) : tYes σ H (fun b H3 => if b = true then A H3 else B H3) := by
  show (if true = true then A H else B H)
  exact iteT h
theorem lc_gen {J : It} {n : Nat} {g : TG} {tt : TT} {te : TE} {vs : List Nat} {σ : L2.St} {H1 : Hp} {D : Addr} {Qd : Hp → Prop} (Pv : Nat → Hp → Prop) (h0 : Pv 0 (upd H1 D (.lst [])))
    (hg : ∀ i H, i < n → Pv i H → J.go i H) (hst : ∀ H, Pv n H → J.stop n H)
    (hs : ∀ i x H H', i < n → Pv i H → J.yld i H x H' → g x (wipe σ vs) H' fun σ2 H2 => wipe σ2 vs = wipe σ vs ∧ tt σ2 H2 fun b H3 =>
      if b = true then te σ2 H3 fun y H4 => ∃ acc, H4 D = some (.lst acc) ∧ acc.length < sizeLine ∧ Pv (i + 1) (upd H4 D (.lst (acc ++ [y]))) else Pv (i + 1) H3) (hd : ∀ H, Pv n H → Qd H) :
    ∃ W : Nat → Nat → Hp → Prop, (∃ m, W 0 m (upd H1 D (.lst []))) ∧ ∀ i m H, W i m H →
      (J.stop i H ∧ Qd H) ∨ (J.go i H ∧ ∃ Nx : Hp → Prop, (∀ H', Nx H' → ∃ m', m' < m ∧ W (i + 1) m' H') ∧ ∀ x H', J.yld i H x H' → g x (wipe σ vs) H' fun σ2 H2 => wipe σ2 vs = wipe σ vs ∧ tt σ2 H2 fun b H3 =>
        if b = true then te σ2 H3 fun y H4 => ∃ acc, H4 D = some (.lst acc) ∧ acc.length < sizeLine ∧ Nx (upd H4 D (.lst (acc ++ [y]))) else Nx H3) := by
  refine ⟨fun i m H => m = n - i ∧ i ≤ n ∧ Pv i H, ⟨n, by simp, Nat.zero_le _, h0⟩, ?_⟩
  rintro i m H ⟨rfl, hi, p⟩
  by_cases hlt : i < n
  · exact .inr ⟨hg i H hlt p, Pv (i + 1), fun H' p' => ⟨n - (i + 1), by omega, rfl, hlt, p'⟩, fun x H' y => hs i x H H' hlt p y⟩
  · have e : i = n := by omega
    subst e
    exact .inl ⟨hst H p, hd H p⟩
section
variable {X : Cx} {K : PySem.W.Frag}
theorem ix_tupK (h : X.K = K) : IxR X (rIxT K) := h ▸ ix_tup
theorem ix_listK (h : X.K = K) : IxR X (rIxL K) := h ▸ ix_list
theorem pg_tupK {es : List Expr} {k : Nat} {t : TGs} {n : Nat} {pos : Pos} (h : X.K = K) (hc : X.calm = true) (hp : PGs X es t)
    (hn : (assignEach es X.env).length = n := by rfl) (hst : (assignEach es X.env).findIdx? (fun z => z.1) = none := by rfl) : PG X (.Tuple es k pos) (gTup K n t) := by
  subst h
  exact pg_tup hc hp hn hst
theorem call_len_seqK (h : X.K = K) : CallR X (.builtin "len") (fun xs H Q => ∃ p ys, xs = [.ref p] ∧ (SqL K H p ys ∨ SqT K H p ys) ∧ Q (.int ys.length) H) := by
  subst h
  exact call_len_seq
end
theorem ix_seqK {X : Cx} {K : PySem.W.Frag} (h : X.K = K) : IxR X (rIx K) := h ▸ ix_seq
/-! ### lists that grow -/
theorem same_grow {H H4 : Hp} {D : Addr} {o : HO} (n : H D = none) (s : Same H H4) : Same H (upd H4 D o) := fun b x e => by
  rw [upd_ne (ne_of_none e n)]
  exact s b x e
theorem RunV.grow {H : Hp} {D : Addr} {acc acc' : List V} {v : V} {r : Run} (hD : H D = some (.lst acc)) (h : RunV H v r) : RunV (upd H D (.lst acc')) v r := by
  obtain ⟨t, e, h⟩ := h
  refine ⟨t, e, ?_⟩
  rw [upd_ne (ne_of h hD (by intro q; cases q))]
  exact h
theorem prs_grow {H : Hp} {D : Addr} {acc acc' : List V} {xs : List V} {rs : List Run} (hD : H D = some (.lst acc)) (h : Paired (RunV H) xs rs) : Paired (RunV (upd H D (.lst acc'))) xs rs := Paired.imp (fun _ _ => RunV.grow hD) h
theorem prs_same {H H' : Hp} {xs : List V} {rs : List Run} (s : Same H H') (h : Paired (RunV H) xs rs) : Paired (RunV H') xs rs := Paired.imp (fun _ _ => RunV.same s) h
theorem take_snoc {α : Type} {l : List α} {i : Nat} {x : α} (h : l[i]? = some x) : l.take (i + 1) = l.take i ++ [x] := by
  rw [List.take_add_one, h]
  rfl
theorem lc_wk {J : It} {H0 H1 : Hp} {xs : List V} {g : TG} {tt : TT} {te : TE} {vs : List Nat} {σ : L2.St} {D : Addr} {Qd : Hp → Prop} (wk : Wk J H0 xs) (Pv : Nat → Hp → Prop) (hsm : ∀ i H, Pv i H → Same H0 H) (h0 : Pv 0 (upd H1 D (.lst [])))
    (hs : ∀ i x H, xs[i]? = some x → Pv i H → g x (wipe σ vs) H fun σ2 H2 => wipe σ2 vs = wipe σ vs ∧ tt σ2 H2 fun b H3 =>
      if b = true then te σ2 H3 fun y H4 => ∃ acc, H4 D = some (.lst acc) ∧ acc.length < sizeLine ∧ Pv (i + 1) (upd H4 D (.lst (acc ++ [y]))) else Pv (i + 1) H3) (hd : ∀ H, Pv xs.length H → Qd H) :
    ∃ W : Nat → Nat → Hp → Prop, (∃ m, W 0 m (upd H1 D (.lst []))) ∧ ∀ i m H, W i m H →
      (J.stop i H ∧ Qd H) ∨ (J.go i H ∧ ∃ Nx : Hp → Prop, (∀ H', Nx H' → ∃ m', m' < m ∧ W (i + 1) m' H') ∧ ∀ x H', J.yld i H x H' → g x (wipe σ vs) H' fun σ2 H2 => wipe σ2 vs = wipe σ vs ∧ tt σ2 H2 fun b H3 =>
        if b = true then te σ2 H3 fun y H4 => ∃ acc, H4 D = some (.lst acc) ∧ acc.length < sizeLine ∧ Nx (upd H4 D (.lst (acc ++ [y]))) else Nx H3) := by
  refine lc_gen Pv h0 (fun i H hi p => wk.go i H (hsm i H p) hi) (fun H p => wk.stop H (hsm _ H p)) (fun i x H H' hi p y => ?_) hd
  obtain ⟨e, ex⟩ := wk.yld i x H H' (hsm i H p) y
  subst e
  exact hs i x _ ex p
theorem for_wk {J : It} {H0 H : Hp} {xs : List V} {g : TG} {tb : TS} {D : Ends} {σ : L2.St} (wk : Wk J H0 xs) (Pv : Nat → L2.St → Hp → Prop) (hsm : ∀ i σ H, Pv i σ H → Same H0 H) (h0 : Pv 0 σ H)
    (hs : ∀ i x σ H, xs[i]? = some x → Pv i σ H → g x σ H fun σ2 H2 => tb { D with nx := Pv (i + 1), ct := Pv (i + 1), bk := D.nx } σ2 H2) (hd : ∀ σ H, Pv xs.length σ H → D.nx σ H) :
    ∃ W : Nat → Nat → L2.St → Hp → Prop, (∃ m, W 0 m σ H) ∧ ∀ i m σ H, W i m σ H →
      (J.stop i H ∧ D.nx σ H) ∨ (J.go i H ∧ ∃ N : L2.St → Hp → Prop, (∀ σ' H', N σ' H' → ∃ m', m' < m ∧ W (i + 1) m' σ' H') ∧ ∀ x H', J.yld i H x H' → g x σ H' fun σ2 H2 => tb { D with nx := N, ct := N, bk := D.nx } σ2 H2) := by
  refine ⟨fun i m σ H => m = xs.length - i ∧ i ≤ xs.length ∧ Pv i σ H, ⟨xs.length, by omega, Nat.zero_le _, h0⟩, ?_⟩
  rintro i m σ H ⟨rfl, hi, p⟩
  by_cases hlt : i < xs.length
  · refine Or.inr ⟨wk.go i H (hsm i σ H p) hlt, Pv (i + 1), fun σ' H' p' => ⟨xs.length - (i + 1), by omega, rfl, hlt, p'⟩, fun x H' y => ?_⟩
    obtain ⟨e, ex⟩ := wk.yld i x H H' (hsm i σ H p) y
    subst e
    exact hs i x σ _ ex p
  · have e : i = xs.length := by omega
    subst e
    exact Or.inl ⟨wk.stop H (hsm _ σ H p), hd σ H p⟩
section
variable {P : Program} {w : World} {K : PySem.W.Frag} {mg : Str → Option Value} {base : Heap}
theorem lex1 {c d : Nat} : (!decide (([c] : List Nat) < [d])) = decide (d ≤ c) := by
  have e : (([c] : List Nat) < [d]) ↔ c < d := by
    rw [List.cons_lt_cons_iff]
    simp
  by_cases h : c < d
  · rw [decide_eq_true (e.mpr h), decide_eq_false (by omega)]
    rfl
  · rw [decide_eq_false (fun z => h (e.mp z)), decide_eq_true (by omega)]
    rfl
/-! ### what the functions say of such a value -/
def kindB (z : Str) : Bool := decide (1 ≤ (z.length : Int) ∧ (z.length : Int) ≤ 8) && z.cps.toList.all fun c => decide (97 ≤ c ∧ c ≤ 122)
def Dat.kind : Dat → Bool
  | .str z => kindB z
  | _ => false
/-- its text, if it is one, is not too long -/
def Dat.fit : Dat → Prop
  | .str z => z.length ≤ 4000
  | _ => True
def Dat.two (d : Dat) : Option (Dat × Dat) := match d.parts with
  | some [x, y] => some (x, y)
  | _ => none
def Dat.run (d : Dat) : Bool := match d.two with
  | some (x, y) => x.kind && y.inI 1 1000000000000000000000000000000
  | none => false
def Dat.pos : Dat → Bool
  | .int n => decide (1 ≤ n)
  | _ => false
def Dat.state (d : Dat) : Bool := match d with
  | .non => true
  | d => match d.two with
    | some (x, y) => x.kind && y.pos
    | none => false
def Dat.fit2 (d : Dat) : Prop := ∀ x y, d.two = some (x, y) → x.fit
theorem kitS {K : PySem.W.Frag} {H : Hp} {v : V} {d : Dat} (h : Rp H v d) (hn : ∀ z, d ≠ .str z) : ∃ t, TyX K H v t ∧ PySem.W.kitOne K t (.type "str") = some false := by
  cases h with
  | non => exact ⟨_, .base .non, kit_ty (by decide +kernel)⟩
  | bl b => exact ⟨_, .base (.bl b), kit_ty (by decide +kernel)⟩
  | int n => exact ⟨_, .base (.int n), kit_ty (by decide +kernel)⟩
  | str z => exact absurd rfl (hn z)
  | dic e => exact ⟨_, .base (.dK e), kit_ty (by decide +kernel)⟩
  | lst e _ => exact ⟨_, .base (.lst e), kit_ty (by decide +kernel)⟩
  | tup e _ => exact ⟨_, .base (.tup e), kit_ty (by decide +kernel)⟩
theorem all_map {α : Type} (l : List α) (f : α → Bool) : ((l.map f).all id) = l.all f := by
  induction l with
  | nil => rfl
  | cons x t ih => rw [List.map_cons, List.all_cons, List.all_cons, ih]; rfl
/-! is_kind: slots 0:value 1:letter -/
abbrev s_is_kind : Stmt := topS 29
theorem sc_is_kind : FnScope ["value", "letter"] ["value"] (defScope s_is_kind) := ⟨rfl, rfl, rfl, by decide +kernel, rfl, by decide +kernel, by decide +kernel⟩
def sp_is_kind : Sp := fun vs H Q _ => ∃ (v : V) (d : Dat), vs = [v] ∧ Rp H v d ∧ d.fit ∧ ∀ H', Same H H' → Q (.bl d.kind) H'
theorem ok_is_kind (D : Df K mg "is_kind" s_is_kind) (T : Tx mg) : Has P w K mg base 1 "is_kind" ["value"] sp_is_kind := by
  refine has_of D sc_is_kind (fun _ _ _ _ _ _ us hl => match us, hl with | [_], _ => rfl) (fun vs H Q E h => ?_) (fun f cdv A outer s H vs Q E hr h => ?_)
  · obtain ⟨v, d, rfl, _⟩ := h
    rfl
  · obtain ⟨v, d, rfl, hv, fit, q⟩ := h
    refine ⟨_, (pss_cons (ps_if (PW.pt (pw_or (pt_not (pt_val (pe_callB call_isi (by rfl) T.n_isinstance (by decide +kernel) (pa_cons (pv 0) (pa_cons (pe_bltn (v := .ty "str") (by rfl) T.n_str (by decide +kernel) rfl) pa_nil))))) (pw_or1 (pt_not (pt_chain op_le op_le pe_int (pe_callB call_len_str (by rfl) T.n_len (by decide +kernel) (pa_cons (pv 0) pa_nil)) (pe_glI T.c_MAX_LETTERS (by rfl))))))) (pss_one (ps_ret pe_bl)) pss_nil)
    (pss_one (ps_ret (pe_callB (cr_all rfl) (by rfl) T.n_all (by decide +kernel) (pa_cons (pe_lc (own := [("letter", 1)]) rfl sc_is_kind.nd (pi_str (pv 0)) (blkOk_by (N := ["value", "letter"]) (sc := defScope s_is_kind) (by decide +kernel)) (fun _ _ _ _ _ => (pg_name (i := 1) sc_is_kind.nd rfl (by first | exact Or.inl rfl | exact Or.inr rfl))) (fun _ _ _ _ _ => pts_nil) (fun _ _ _ _ _ => (pe_chain op_le_str op_le_str pe_str (pv 1) pe_str))) pa_nil))))), ?_⟩
    by_cases hn : ∀ z, d ≠ .str z
    · obtain ⟨t, h1, h2⟩ := kitS (K := K) hv hn
      have e : d.kind = false := by
        cases d with
        | str z => exact absurd rfl (hn z)
        | _ => rfl
      rw [e] at q
      exact ⟨_, rfl, _, _, _, _, false, rfl, .ty "str", h1, h2, false, rfl, iteT (q H (Same.refl H))⟩
    have hn : ∃ z, d = .str z := by
      apply Classical.byContradiction
      intro c
      exact hn fun z e => c ⟨z, e⟩
    obtain ⟨z, rfl⟩ := hn
    cases hv
    have fit : z.length ≤ 4000 := fit
    refine ⟨_, rfl, _, _, _, _, true, rfl, .ty "str", .base (.str z), kit_ty (by decide +kernel), true, rfl, iteF ?_⟩
    have no : ¬ (1 ≤ (z.length : Int) ∧ (z.length : Int) ≤ 8) → (Dat.str z).kind = false := fun c => by
      show (decide _ && _) = false
      rw [decide_eq_false c]
      rfl
    refine ⟨_, rfl, z, rfl, smallE (by omega), _, _, rfl, rfl, _, rfl, ?_⟩
    by_cases c1 : (1 : Int) ≤ (z.length : Int)
    · refine iteP (decide_eq_true c1) ⟨_, _, rfl, rfl, _, rfl, ?_⟩
      by_cases c2 : (z.length : Int) ≤ 8
      · refine iteN ?_ ?_
        · show (!decide ((z.length : Int) ≤ 8)) = false
          rw [decide_eq_true c2]
          rfl
        refine ⟨_, rfl, z, rfl, fun L nL => lc_gen (n := z.cps.size) (fun i H' => Same H H' ∧ H' L = some (.lst (((z.cps.toList.take i).map fun c => decide (97 ≤ c ∧ c ≤ 122)).map V.bl))) ⟨same_upd nL, upd_same⟩ (fun i H' hi _ => hi) (fun H' _ => Nat.le_refl _) (fun i x H1 H2 hi p y => ?_) (fun H' p => ?_)⟩
        · obtain ⟨rfl, c, ec, rfl⟩ := y
          obtain ⟨sm, hL⟩ := p
          have ec' : z.cps.toList[i]? = some c := by
            rw [Array.getElem?_toList]
            exact ec
          have ea : ("a" : Str).cps.toList = [97] := by decide +kernel
          have ez : ("z" : Str).cps.toList = [122] := by decide +kernel
          have lim : (((z.cps.toList.take i).map fun c => decide (97 ≤ c ∧ c ≤ 122)).map V.bl).length < sizeLine := by
            simp only [List.length_map, List.length_take]
            exact small (by have : z.cps.size = z.length := rfl; omega)
          have put : ∀ b : Bool, b = decide (97 ≤ c ∧ c ≤ 122) → Same H (upd H2 L (.lst ((((z.cps.toList.take i).map fun c => decide (97 ≤ c ∧ c ≤ 122)).map V.bl) ++ [V.bl b]))) ∧ (upd H2 L (.lst ((((z.cps.toList.take i).map fun c => decide (97 ≤ c ∧ c ≤ 122)).map V.bl) ++ [V.bl b]))) L = some (.lst (((z.cps.toList.take (i + 1)).map fun c => decide (97 ≤ c ∧ c ≤ 122)).map V.bl)) := by
            intro b hb
            refine ⟨same_grow nL sm, ?_⟩
            rw [upd_same, take_snoc ec', List.map_append, List.map_append, hb]
            rfl
          have t1 : (!decide (([c] : List Nat) < ("a" : Str).cps.toList)) = decide (97 ≤ c) := by rw [ea, lex1]
          have t2 : (!decide ((("z" : Str).cps.toList) < ([c] : List Nat))) = decide (c ≤ 122) := by rw [ez, lex1]
          refine ⟨rfl, yesT ⟨_, rfl, _, _, rfl, rfl, _, rfl, ?_⟩⟩
          by_cases b1 : 97 ≤ c
          · refine iteP (t1.trans (decide_eq_true b1)) ⟨_, _, rfl, rfl, _, hL, lim, put _ ?_⟩
            exact t2.trans (decide_eq_decide.mpr ⟨fun z => ⟨b1, z⟩, fun z => z.2⟩)
          · refine iteN (t1.trans (decide_eq_false b1)) ⟨_, hL, lim, put _ ?_⟩
            exact (decide_eq_false (p := 97 ≤ c ∧ c ≤ 122) (fun z => b1 z.1)).symm
        · refine ⟨L, _, rfl, .of p.2, ?_⟩
          have e : (((z.cps.toList.take z.cps.size).map fun c => decide (97 ≤ c ∧ c ≤ 122)).all id) = (Dat.str z).kind := by
            rw [all_map, List.take_of_length_le (by rw [Array.length_toList]; exact Nat.le_refl _)]
            show _ = (decide _ && _)
            rw [decide_eq_true ⟨c1, c2⟩]
            rfl
          rw [e]
          exact q H' p.1
      · refine iteP ?_ ?_
        · show (!decide ((z.length : Int) ≤ 8)) = true
          rw [decide_eq_false c2]
          rfl
        rw [no fun k => c2 k.2] at q
        exact q H (Same.refl H)
    · rw [no fun k => c1 k.1] at q
      exact iteN (decide_eq_false c1) ⟨_, rfl, iteT (q H (Same.refl H))⟩
theorem at0 {α : Type} {x y : α} : atI [x, y] 0 = some x := rfl
theorem at1 {α : Type} {x y : α} : atI [x, y] 1 = some y := rfl
theorem ix0 {K : PySem.W.Frag} {H : Hp} {t : Addr} {x y : V} {Q : VK} (h : Sq2 H t [x, y]) (q : Q x H) : rIx K (.ref t) (.int 0) H Q := h.elim (fun z => .inl ⟨t, _, 0, _, rfl, rfl, .of z, at0, q⟩) (fun z => .inr (.inl ⟨t, _, 0, _, rfl, rfl, .of z, at0, q⟩))
theorem ix1 {K : PySem.W.Frag} {H : Hp} {t : Addr} {x y : V} {Q : VK} (h : Sq2 H t [x, y]) (q : Q y H) : rIx K (.ref t) (.int 1) H Q := h.elim (fun z => .inl ⟨t, _, 1, _, rfl, rfl, .of z, at1, q⟩) (fun z => .inr (.inl ⟨t, _, 1, _, rfl, rfl, .of z, at1, q⟩))
theorem Rp.two {H : Hp} {v : V} {d x y : Dat} (h : Rp H v d) (e : d.two = some (x, y)) : ∃ a vx vy, v = .ref a ∧ Sq2 H a [vx, vy] ∧ Rp H vx x ∧ Rp H vy y := by
  cases hp : d.parts with
  | none =>
    unfold Dat.two at e
    rw [hp] at e
    cases e
  | some l =>
    obtain ⟨a, xs, rfl, hx, hq⟩ := h.seq hp
    unfold Dat.two at e
    rw [hp] at e
    cases hq with
    | nil => cases e
    | cons h1 t1 =>
      cases t1 with
      | nil => cases e
      | cons h2 t2 =>
        cases t2 with
        | nil =>
          cases e
          exact ⟨a, _, _, rfl, hx, h1, h2⟩
        | cons h3 t3 => cases e
theorem couple_two {d : Dat} : d.couple = d.two.isSome := by
  unfold Dat.couple Dat.two
  cases d.parts with
  | none => rfl
  | some l =>
    match l with
    | [] => rfl
    | [x] => rfl
    | [x, y] => rfl
    | x :: y :: z :: t =>
      show decide ((x :: y :: z :: t).length = 2) = false
      exact decide_eq_false (by simp only [List.length_cons]; omega)
/-! is_run: slots 0:value -/
abbrev s_is_run : Stmt := topS 30
theorem sc_is_run : FnScope ["value"] ["value"] (defScope s_is_run) := ⟨rfl, rfl, rfl, by decide +kernel, rfl, by decide +kernel, by decide +kernel⟩
def sp_is_run : Sp := fun vs H Q _ => ∃ (v : V) (d : Dat), vs = [v] ∧ Rp H v d ∧ d.fit2 ∧ ∀ H', Same H H' → Q (.bl d.run) H'
theorem ok_is_run (D : Df K mg "is_run" s_is_run) (T : Tx mg) (G_is_couple : Has P w K mg base 1 "is_couple" ["value"] sp_is_couple) (G_is_kind : Has P w K mg base 1 "is_kind" ["value"] sp_is_kind) (G_is_within : Has P w K mg base 2 "is_within" ["value", "low", "high"] sp_is_within) :
    Has P w K mg base 3 "is_run" ["value"] sp_is_run := by
  refine has_of D sc_is_run (fun _ _ _ _ _ _ us hl => match us, hl with | [_], _ => rfl) (fun vs H Q E h => ?_) (fun f cdv A outer s H vs Q E hr h => ?_)
  · obtain ⟨v, d, rfl, _⟩ := h
    rfl
  · obtain ⟨v, d, rfl, hv, fit, q⟩ := h
    refine ⟨_, (pss_one (ps_ret (pe_and (pe_callH G_is_couple (hr.mono (by omega)) (by rfl) (pa_cons (pv 0) pa_nil)) (pe_and (pe_callH G_is_kind (hr.mono (by omega)) (by rfl) (pa_cons (pe_ix ix_seq (pv 0) pe_int (fun _ _ => rfl)) pa_nil)) (pe_one (pe_callH G_is_within (hr.mono (by omega)) (by rfl) (pa_cons (pe_ix ix_seq (pv 0) pe_int (fun _ _ => rfl)) (pa_cons pe_int (pa_cons (pe_glI T.c_MAX_COUNT (by rfl)) pa_nil))))))))), ?_⟩
    refine ⟨_, rfl, v, d, rfl, hv, fun H1 s1 => ⟨d.couple, rfl, ?_⟩⟩
    cases ht : d.two with
    | none =>
      have e1 : d.couple = false := by rw [couple_two, ht]; rfl
      have e2 : d.run = false := by unfold Dat.run; rw [ht]
      rw [e2] at q
      refine iteN e1 ?_
      exact q _ s1
    | some p =>
      obtain ⟨x, y⟩ := p
      have e1 : d.couple = true := by rw [couple_two, ht]; rfl
      have e2 : d.run = (x.kind && y.inI 1 1000000000000000000000000000000) := by unfold Dat.run; rw [ht]
      rw [e2] at q
      obtain ⟨a, vx, vy, rfl, hs, hx, hy⟩ := hv.two ht
      refine iteP e1 ?_
      refine ⟨_, rfl, ix0 (hs.same s1) ⟨vx, x, rfl, hx.same s1, fit x y ht, fun H2 s2 => ⟨x.kind, rfl, ?_⟩⟩⟩
      by_cases ck : x.kind = true
      · refine iteP ck ?_
        rw [ck] at q
        refine ⟨_, rfl, ix1 ((hs.same s1).same s2) ⟨vy, y, 1, _, rfl, hy.same (s1.trans s2), q _ (s1.trans s2)⟩⟩
      · have ck : x.kind = false := by simpa using ck
        refine iteN ck ?_
        rw [ck] at q
        exact q _ (s1.trans s2)
end
end UP

set_option Elab.async false
set_option linter.all false
set_option maxRecDepth 100000
set_option maxHeartbeats 4000000
namespace UP
open PySem PySem.Spec PyProof.Rows L2
/-- the kind of a run -/
def Dat.key (d : Dat) : Str := match d.two with
  | some (.str z, _) => z
  | _ => ""
def keyAt (l : List Dat) (i : Nat) : Str := match l[i]? with
  | some d => d.key
  | none => ""
def stepB (l : List Dat) (i : Nat) : Bool := !decide (V.str (keyAt l i) = V.str (keyAt l (i + 1)))
def Dat.seq (d : Dat) : Bool := match d.parts with
  | some l => decide ((l.length : Int) ≤ 400) && (l.all Dat.run && ((List.range (l.length - 1)).map (stepB l)).all id)
  | none => false
def Dat.fits (d : Dat) : Prop := ∀ l, d.parts = some l → l.length ≤ 100000 ∧ ∀ x ∈ l, x.fit2
theorem run_two {d : Dat} (h : d.run = true) : ∃ z y, d.two = some (.str z, y) ∧ d.key = z := by
  unfold Dat.run at h
  cases ht : d.two with
  | none => rw [ht] at h; cases h
  | some p =>
    obtain ⟨x, y⟩ := p
    rw [ht] at h
    have h : (x.kind && y.inI 1 1000000000000000000000000000000) = true := h
    cases x with
    | str z => exact ⟨z, y, rfl, by unfold Dat.key; rw [ht]⟩
    | _ => cases h
theorem range_snoc {α : Type} (f : Nat → α) (i : Nat) : (List.range (i + 1)).map f = (List.range i).map f ++ [f i] := by
  rw [List.range_succ, List.map_append]
  rfl
section
variable {P : Program} {w : World} {K : PySem.W.Frag} {mg : Str → Option Value} {base : Heap}
/-! is_sequence: slots 0:value 1:run 2:following -/
abbrev s_is_sequence : Stmt := topS 31
theorem sc_is_sequence : FnScope ["value", "run", "following"] ["value"] (defScope s_is_sequence) := ⟨rfl, rfl, rfl, by decide +kernel, rfl, by decide +kernel, by decide +kernel⟩
def sp_is_sequence : Sp := fun vs H Q _ => ∃ (v : V) (d : Dat), vs = [v] ∧ Rp H v d ∧ d.fits ∧ ∀ H', Same H H' → Q (.bl d.seq) H'
theorem ok_is_sequence (D : Df K mg "is_sequence" s_is_sequence) (T : Tx mg) (G_is_listed : Has P w K mg base 1 "is_listed" ["value", "most"] sp_is_listed) (G_is_run : Has P w K mg base 3 "is_run" ["value"] sp_is_run) :
    Has P w K mg base 4 "is_sequence" ["value"] sp_is_sequence := by
  refine has_of D sc_is_sequence (fun _ _ _ _ _ _ us hl => match us, hl with | [_], _ => rfl) (fun vs H Q E h => ?_) (fun f cdv A outer s H vs Q E hr h => ?_)
  · obtain ⟨v, r, rfl, _⟩ := h
    rfl
  · obtain ⟨v, d, rfl, hv, fit, q⟩ := h
    refine ⟨_, (pss_cons (ps_if (PW.pt (pw_or (pt_not (pt_val (pe_callH G_is_listed (hr.mono (by omega)) (by rfl) (pa_cons (pv 0) (pa_cons (pe_glI T.c_MAX_RUNS (by rfl)) pa_nil))))) (pw_or1 (pt_not (pt_val (pe_callB (cr_all rfl) (by rfl) T.n_all (by decide +kernel) (pa_cons (pe_lc (own := [("run", 1)]) rfl sc_is_sequence.nd (pi_seqV 0) (blkOk_by (N := ["value", "run", "following"]) (sc := defScope s_is_sequence) (by decide +kernel)) (fun _ _ _ _ _ => (pg_name (i := 1) sc_is_sequence.nd rfl (by first | exact Or.inl rfl | exact Or.inr rfl))) (fun _ _ _ _ _ => pts_nil) (fun _ _ _ _ _ => (pe_callH G_is_run (hr.mono (by omega)) (by rfl) (pa_cons (pv 1) pa_nil)))) pa_nil))))))) (pss_one (ps_ret pe_bl)) pss_nil)
    (pss_one (ps_ret (pe_callB (cr_all rfl) (by rfl) T.n_all (by decide +kernel) (pa_cons (pe_lc (own := [("run", 1), ("following", 2)]) rfl sc_is_sequence.nd (pi_zip1 (i := 0) (RZ.pi_zipA (by rfl) T.n_zip (pa_cons (pv 0) (pa_cons (pe_slice (SlR.or sl_list sl_tupA) (pv 0) (po_some pe_int) po_none) pa_nil))) (fun _ _ _ q => ⟨1, rfl, q⟩) (fun _ _ _ q => q)) (blkOk_by (N := ["value", "run", "following"]) (sc := defScope s_is_sequence) (by decide +kernel)) (fun _ _ _ _ _ => (pg_tupK (K := K) (n := 2) rfl rfl (pgs_cons (pg_name (i := 1) sc_is_sequence.nd rfl (by first | exact Or.inl rfl | exact Or.inr rfl)) (pgs_cons (pg_name (i := 2) sc_is_sequence.nd rfl (by first | exact Or.inl rfl | exact Or.inr rfl)) pgs_nil)))) (fun _ _ _ _ _ => pts_nil) (fun _ _ _ _ _ => (pe_cmpR op_ne (pe_ix (ix_seqK (K := K) rfl) (pv 1) pe_int (fun _ _ => rfl)) (pe_ix (ix_seqK (K := K) rfl) (pv 2) pe_int (fun _ _ => rfl)) (nomark _)))) pa_nil))))), ?_⟩
    refine ⟨_, rfl, v, d, 400, rfl, hv, fun H1 s1 => ⟨_, rfl, ?_⟩⟩
    by_cases cl : d.listed 400 = true
    · refine iteN (by rw [cl]; rfl) ?_
      obtain ⟨l, hd⟩ : ∃ l, d.parts = some l := by
        cases hp : d.parts with
        | some l => exact ⟨l, rfl⟩
        | none =>
          unfold Dat.listed at cl
          rw [hp] at cl
          cases cl
      obtain ⟨a, xs, rfl, hx, hp⟩ := hv.seq hd
      have lx : xs.length = l.length := Paired.len hp
      obtain ⟨l5, fit⟩ := fit l hd
      have l4 : (l.length : Int) ≤ 400 := by
        unfold Dat.listed at cl
        rw [hd] at cl
        exact of_decide_eq_true cl
      have e0 : d.seq = (l.all Dat.run && ((List.range (l.length - 1)).map (stepB l)).all id) := by
        unfold Dat.seq
        rw [hd]
        show (decide _ && _) = _
        rw [decide_eq_true l4]
        rfl
      rw [e0] at q
      refine ⟨a, xs, rfl, hx.same s1, fun J wk L nL => lc_wk wk (fun i H' => Same H1 H' ∧ H' L = some (.lst (((l.take i).map Dat.run).map V.bl))) (fun _ _ p => p.1) ⟨same_upd nL, upd_same⟩ (fun i x H2 ex p => ?_) (fun H2 p => ?_)⟩
      · obtain ⟨sm, hL⟩ := p
        obtain ⟨r, er, hr1⟩ := Paired.at hp ex
        have hi : i < xs.length := (List.getElem?_eq_some_iff.mp ex).1
        refine ⟨rfl, yesT ⟨_, rfl, x, r, rfl, hr1.same (s1.trans sm), fit r (List.mem_of_getElem? er), fun H3 s3 => ⟨_, s3 _ _ hL, ?_, same_grow nL (sm.trans s3), ?_⟩⟩⟩
        · simp only [List.length_map, List.length_take]
          exact small (by omega)
        · rw [upd_same, take_snoc er, List.map_append, List.map_append]
          rfl
      · rw [lx, List.take_length] at p
        refine ⟨L, _, rfl, .of p.2, _, rfl, ?_⟩
        rw [all_map]
        have s2 : Same H H2 := s1.trans p.1
        by_cases ca : l.all Dat.run = true
        · rw [ca] at q
          refine iteN (by rw [ca]; rfl) ?_
          have rok : ∀ (i : Nat) (x : Dat), l[i]? = some x → x.run = true := fun i x h => List.all_eq_true.mp ca x (List.mem_of_getElem? h)
          refine ⟨a, xs, rfl, hx.same s2, fun J Hc sc wk M nM => ?_⟩
          have sA : Same H Hc := s2.trans sc
          refine lc_gen (n := xs.length - 1) (fun i H' => Same Hc H' ∧ H' M = some (.lst (((List.range i).map (stepB l)).map V.bl))) ⟨same_upd nM, upd_same⟩ (fun i H' hi p => wk.go i H' p.1 (by omega)) (fun H' p => wk.stop H' p.1) (fun i x H3 H4 hi p y => ?_) (fun H' p => ?_)
          · obtain ⟨T', x1, x2, rfl, nT, rfl, g1, g2⟩ := wk.yld i x H3 H4 p.1 y
            obtain ⟨sm, hM⟩ := p
            have g2 := g2 (by omega)
            have sB : Same H H3 := sA.trans sm
            obtain ⟨r1, e1, v1⟩ := Paired.at hp g1
            obtain ⟨r2, e2, v2⟩ := Paired.at hp g2
            obtain ⟨z1, y1, t1, k1⟩ := run_two (rok _ _ e1)
            obtain ⟨z2, y2, t2, k2⟩ := run_two (rok _ _ e2)
            obtain ⟨a1, u1, u1', rfl, w1, m1, _⟩ := (v1.same (sB.trans (same_upd (o := .tup [x1, x2]) nT))).two t1
            obtain ⟨a2, u2, u2', rfl, w2, m2, _⟩ := (v2.same (sB.trans (same_upd (o := .tup [_, x2]) nT))).two t2
            cases m1
            cases m2
            refine ⟨T', _, rfl, .of upd_same, rfl, _, _, rfl, _, _, rfl, rfl, rfl, yesT ?_⟩
            refine ⟨_, rfl, ix0 w1 ⟨_, rfl, ix0 w2 ⟨rfl, _, same_upd nT _ _ hM, ?_, same_grow nM (sm.trans (same_upd nT)), ?_⟩⟩⟩
            · simp only [List.length_map, List.length_range]
              exact small (by omega)
            · rw [upd_same, range_snoc, List.map_append]
              have eb : stepB l i = !decide (V.str z1 = V.str z2) := by
                unfold stepB keyAt
                rw [e1, e2]
                show (!decide (V.str r1.key = V.str r2.key)) = _
                rw [k1, k2]
              rw [← eb]
              rfl
          · refine ⟨M, _, rfl, .of p.2, ?_⟩
            rw [lx]
            exact q _ (sA.trans p.1)
        · have ca : l.all Dat.run = false := by simpa using ca
          rw [ca] at q
          exact iteP (by rw [ca]; rfl) (q _ s2)
    · have cl : d.listed 400 = false := by simpa using cl
      have e0 : d.seq = false := by
        unfold Dat.listed at cl
        unfold Dat.seq
        cases hp : d.parts with
        | none => rfl
        | some l =>
          rw [hp] at cl
          have cl : decide ((l.length : Int) ≤ 400) = false := cl
          show (decide _ && _) = false
          rw [cl]
          rfl
      rw [e0] at q
      exact iteP (by rw [cl]; rfl) (q _ s1)
end
end UP

set_option Elab.async false
set_option linter.all false
set_option maxRecDepth 100000
set_option maxHeartbeats 4000000
namespace UP
open PySem PySem.Spec PyProof.Rows L2
section
variable {P : Program} {w : World} {K : PySem.W.Frag} {mg : Str → Option Value} {base : Heap}
/-- a def that may raise an exception whose context is None -/
theorem okXN {x qual : Str} {st : Stmt} {f : Addr} {fd : FuncData} {N ps : List Str} {k : Nat} {sp : Sp} (F : Fun K x qual st f fd) (S : FnScope N ps (defScope st)) (len : ∀ vs H Q E, sp vs H Q E → vs.length = ps.length)
    (body : ∀ (cdv : Value) (A : Around) (outer : List Env) (s : Shared) (H : Hp) (vs : List V) (Q : VK) (E : XK), Room k (A.deeper (envOfC qual (defScope st) s.heap.objs.size f cdv)) → sp vs H Q E →
      ∃ t, PSs (cxOf (L2N.CX P w) P w K mg base N qual (defScope st) f cdv A outer s H E) (defBody st) t ∧ t { nx := fun _ H' => Q .non H', rt := Q } (start N vs) H) : FnOk P w K mg base (L2N.CX P w) (k + 1) f fd ps sp := by
  obtain ⟨oc, od, kV, doc, pm, an, cdv, ct, osl, rfl, lk, hcd⟩ := F.ex
  exact fn_of lk hcd S len fun A outer s H vs Q E hr hsp => body cdv A outer s H vs Q E hr hsp
end
end UP

set_option Elab.async false
set_option linter.all false
set_option maxRecDepth 100000
set_option maxHeartbeats 4000000
namespace UP
open PySem PySem.Spec PyProof.Rows L2
/-! ### functions that may raise -/
section
variable (P : Program) (w : World) (K : PySem.W.Frag) (mg : Str → Option Value) (base : Heap)
def HasX (k : Nat) (x : Str) (ps : List Str) (sp : Sp) : Prop :=
  ∃ f fd, mg x = some (.ref f) ∧ PySem.W.keepIn K (.ref f) = true ∧ Binds K fd ps [] ∧ FnOk P w K mg base (L2N.CX P w) k f fd ps sp
end
/-- the class x of errors stands at C -/
structure Ex (K : PySem.W.Frag) (mg : Str → Option Value) (x : Str) (C : Addr) : Prop where
  g : mg x = some (.ref C)
  x : PySem.W.excIn K C [.type "ValueError", .type "Exception", .type "BaseException", .type "object"] "ValueError.__new__" = true
  k : PySem.W.keepIn K (.ref C) = true
  b : PySem.W.subIn K (.ref C) (.type "BaseException") = some true
  t : PySem.W.typeIn K (.ref C) = some (.type "type")
/-! ### values that are runs, sequences, states -/
def Dat.rr (d : Dat) : Run := match d.two with
  | some (.str z, .int n) => (z, n)
  | _ => ("", 0)
def Dat.stt (d : Dat) : Option Run := match d with
  | .non => none
  | d => some d.rr
def Dat.runs (d : Dat) : List Run := match d.parts with
  | some l => l.map Dat.rr
  | none => []
theorem kind_ok {z : Str} (h : kindB z = true) : KindOk z := by
  unfold kindB at h
  have h := Bool.and_eq_true_iff.mp h
  have h1 := of_decide_eq_true h.1
  refine ⟨by omega, by omega, fun c hc => ?_⟩
  exact of_decide_eq_true (List.all_eq_true.mp h.2 c hc)
theorem run_str {d : Dat} (h : d.run = true) : ∃ z n, d.two = some (.str z, .int n) ∧ d.rr = (z, n) ∧ d.key = z ∧ KindOk z ∧ 1 ≤ n ∧ n ≤ 1000000000000000000000000000000 := by
  obtain ⟨z, y, ht, hk⟩ := run_two h
  unfold Dat.run at h
  rw [ht] at h
  have h := Bool.and_eq_true_iff.mp (show (kindB z && y.inI 1 1000000000000000000000000000000) = true from h)
  cases y with
  | int n =>
    have h2 : 1 ≤ n ∧ n ≤ 1000000000000000000000000000000 := of_decide_eq_true h.2
    exact ⟨z, n, ht, by unfold Dat.rr; rw [ht], hk, kind_ok h.1, h2.1, h2.2⟩
  | _ => cases h.2
theorem run_rp {H : Hp} {v : V} {d : Dat} (hv : Rp H v d) (h : d.run = true) : RunG H v d.rr ∧ RunOk d.rr := by
  obtain ⟨z, n, ht, hr, _, k, n1, n2⟩ := run_str h
  obtain ⟨a, vx, vy, rfl, hs, hx, hy⟩ := hv.two ht
  cases hx
  cases hy
  rw [hr]
  exact ⟨⟨a, rfl, hs⟩, k, n1, n2⟩
theorem seq_rp {H : Hp} {v : V} {d : Dat} (hv : Rp H v d) (h : d.seq = true) : RunsG H v d.runs ∧ SeqOk d.runs := by
  cases hd : d.parts with
  | none =>
    unfold Dat.seq at h
    rw [hd] at h
    cases h
  | some l =>
    unfold Dat.seq at h
    rw [hd] at h
    have h := Bool.and_eq_true_iff.mp (show (decide ((l.length : Int) ≤ 400) && (l.all Dat.run && ((List.range (l.length - 1)).map (stepB l)).all id)) = true from h)
    have h1 := of_decide_eq_true h.1
    have h2 := Bool.and_eq_true_iff.mp h.2
    have er : d.runs = l.map Dat.rr := by unfold Dat.runs; rw [hd]
    rw [er]
    obtain ⟨a, xs, rfl, hx, hp⟩ := hv.seq hd
    have ra : ∀ x ∈ l, x.run = true := fun x hx => List.all_eq_true.mp h2.1 x hx
    have pair : ∀ {xs : List V} {l : List Dat}, Paired (Rp H) xs l → (∀ x ∈ l, x.run = true) → Paired (RunG H) xs (l.map Dat.rr) := by
      intro xs l hp
      induction hp with
      | nil => intro _; exact .nil
      | cons h _ ih =>
        intro k
        exact .cons (run_rp h (k _ (List.mem_cons_self ..))).1 (ih fun x hx => k x (List.mem_cons_of_mem _ hx))
    refine ⟨⟨a, xs, rfl, hx, pair hp ra⟩, by rw [List.length_map]; omega, fun r hr => ?_, fun i x y ex ey => ?_⟩
    · obtain ⟨e, he, rfl⟩ := List.mem_map.mp hr
      obtain ⟨z, n, _, hr, _, k, n1, n2⟩ := run_str (ra e he)
      rw [hr]
      exact ⟨k, n1, n2⟩
    · rw [List.getElem?_map] at ex ey
      cases e1 : l[i]? with
      | none => rw [e1] at ex; cases ex
      | some p =>
        cases e2 : l[i + 1]? with
        | none => rw [e2] at ey; cases ey
        | some p2 =>
          rw [e1] at ex
          rw [e2] at ey
          cases ex
          cases ey
          have hi : i < l.length - 1 := by
            have := (List.getElem?_eq_some_iff.mp e2).1
            omega
          have st := List.all_eq_true.mp h2.2 (stepB l i) (List.mem_map.mpr ⟨i, List.mem_range.mpr hi, rfl⟩)
          obtain ⟨z1, n1, _, r1, k1, _⟩ := run_str (ra p (List.mem_of_getElem? e1))
          obtain ⟨z2, n2, _, r2, k2, _⟩ := run_str (ra p2 (List.mem_of_getElem? e2))
          unfold stepB keyAt at st
          rw [e1, e2] at st
          have st : (!decide (V.str p.key = V.str p2.key)) = true := st
          rw [k1, k2] at st
          rw [r1, r2]
          intro z
          have z : z1 = z2 := z
          rw [z, decide_eq_true rfl] at st
          cases st
theorem state_rp {H : Hp} {v : V} {d : Dat} (hv : Rp H v d) (h : d.state = true) : StG H v d.stt ∧ ∀ r, d.stt = some r → KindOk r.1 ∧ 1 ≤ r.2 := by
  by_cases dn : d = .non
  · subst dn
    cases hv
    exact ⟨rfl, fun r hr => by cases hr⟩
  have e0 : d.state = match d.two with
    | some (x, y) => x.kind && y.pos
    | none => false := by
    cases d with
    | non => exact absurd rfl dn
    | _ => rfl
  have e1 : d.stt = some d.rr := by
    cases d with
    | non => exact absurd rfl dn
    | _ => rfl
  rw [e0] at h
  rw [e1]
  cases ht : d.two with
  | none => rw [ht] at h; cases h
  | some p =>
    obtain ⟨x, y⟩ := p
    rw [ht] at h
    have h := Bool.and_eq_true_iff.mp (show (x.kind && y.pos) = true from h)
    obtain ⟨a, vx, vy, rfl, hs, hx, hy⟩ := hv.two ht
    cases hx with
    | str z =>
      cases hy with
      | int n =>
        have er : d.rr = (z, n) := by unfold Dat.rr; rw [ht]
        rw [er]
        exact ⟨⟨a, rfl, hs⟩, fun r hr => by cases hr; exact ⟨kind_ok h.1, of_decide_eq_true h.2⟩⟩
      | _ => cases h.2
    | _ => cases h.1
section
variable {P : Program} {w : World} {K : PySem.W.Frag} {mg : Str → Option Value} {base : Heap}
theorem hasX_of {x : Str} {st : Stmt} {ps N : List Str} {k : Nat} {sp : Sp} (D : Df K mg x st) (S : FnScope N ps (defScope st))
    (hb : ∀ (kV doc pm : Value) (an : Option Addr) (cdv ct : Value) (us : List Value), us.length = ps.length → bindArgs (PySem.W.fnOf x x (defArgs st) (defBody st) (defScope st) .none kV doc pm an cdv ct) ⟨us, []⟩ = pure (ps.zip us))
    (len : ∀ vs H Q E, sp vs H Q E → vs.length = ps.length)
    (body : ∀ (f : Addr) (cdv : Value) (A : Around) (outer : List Env) (s : Shared) (H : Hp) (vs : List V) (Q : VK) (E : XK), Room k (A.deeper (envOfC x (defScope st) s.heap.objs.size f cdv)) → sp vs H Q E →
      ∃ t, PSs (cxOf (L2N.CX P w) P w K mg base N x (defScope st) f cdv A outer s H E) (defBody st) t ∧ t { nx := fun _ H' => Q .non H', rt := Q } (start N vs) H) :
    HasX P w K mg base (k + 1) x ps sp := by
  obtain ⟨f, fd, g, F⟩ := D
  exact ⟨f, fd, g, F.kp, F.binds hb, okXN F S len fun cdv A outer s H vs Q E hr h => body f cdv A outer s H vs Q E hr h⟩
end
end UP

set_option Elab.async false
set_option linter.all false
set_option maxRecDepth 100000
set_option maxHeartbeats 4000000
namespace UP
open PySem PySem.Spec PyProof.Rows L2
section
variable {P : Program} {w : World} {K : PySem.W.Frag} {mg : Str → Option Value} {base : Heap}
end
end UP

set_option Elab.async false
set_option linter.all false
set_option maxRecDepth 100000
set_option maxHeartbeats 4000000
set_option pp.maxSteps 600
namespace UP
open PySem PySem.Spec PyProof.Rows L2
/-! ### entries and records among values of any form -/
def Dat.act : Dat → Bool
  | .str z => decide (z = "waits") || decide (z = "leaves")
  | _ => false
def Dat.none0 : Dat → Bool
  | .non => true
  | _ => false
def Dat.entry (d : Dat) : Bool := match d.two with
  | some (x, y) => (x.none0 || x.kind) && y.act
  | none => false
def Dat.recd (d : Dat) : Bool := match d.parts with
  | some l => decide ((l.length : Int) ≤ 400) && l.all Dat.entry
  | none => false
theorem in_act {z : Str} : inV (.str z) [.str "waits", .str "leaves"] = (Dat.str z).act := by
  show inV _ _ = (decide (z = "waits") || decide (z = "leaves"))
  unfold inV
  by_cases a : z = "waits"
  · subst a
    decide +kernel
  · by_cases b : z = "leaves"
    · subst b
      decide +kernel
    · rw [decide_eq_false a, decide_eq_false b]
      simp [a, b, List.any]
      exact ⟨decide_eq_false fun e => a e.symm, decide_eq_false fun e => b e.symm⟩
section
variable {P : Program} {w : World} {K : PySem.W.Frag} {mg : Str → Option Value} {base : Heap}
/-! is_entry: slots 0:value -/
abbrev s_is_entry : Stmt := topS 34
theorem sc_is_entry : FnScope ["value"] ["value"] (defScope s_is_entry) := ⟨rfl, rfl, rfl, by decide +kernel, rfl, by decide +kernel, by decide +kernel⟩
def sp_is_entry : Sp := fun vs H Q _ => ∃ (v : V) (d : Dat), vs = [v] ∧ Rp H v d ∧ d.fit2 ∧ ∀ H', Same H H' → Q (.bl d.entry) H'
theorem ok_is_entry (D : Df K mg "is_entry" s_is_entry) (T : Tx mg) (G_is_couple : Has P w K mg base 1 "is_couple" ["value"] sp_is_couple) (G_is_kind : Has P w K mg base 1 "is_kind" ["value"] sp_is_kind) : Has P w K mg base 2 "is_entry" ["value"] sp_is_entry := by
  refine has_of D sc_is_entry (fun _ _ _ _ _ _ us hl => match us, hl with | [_], _ => rfl) (fun vs H Q E h => ?_) (fun f cdv A outer s H vs Q E hr h => ?_)
  · obtain ⟨v, d, rfl, _⟩ := h
    rfl
  · obtain ⟨v, d, rfl, hv, fit, q⟩ := h
    refine ⟨_, (pss_cons (ps_if (PW.pt (pw_or (pt_not (pt_val (pe_callH G_is_couple (hr.mono (by omega)) (by rfl) (pa_cons (pv 0) pa_nil)))) (pw_or1 (pt_not (pt_val (pe_callB call_isi (by rfl) T.n_isinstance (by decide +kernel) (pa_cons (pe_ix ix_seq (pv 0) pe_int (fun _ _ => rfl)) (pa_cons (pe_bltn (v := .ty "str") (by rfl) T.n_str (by decide +kernel) rfl) pa_nil)))))))) (pss_one (ps_ret pe_bl)) pss_nil)
    (pss_one (ps_ret (pe_and (pe_or (pe_cmpR op_isN (pe_ix ix_seq (pv 0) pe_int (fun _ _ => rfl)) pe_non (nomark _)) (pe_one (pe_callH G_is_kind (hr.mono (by omega)) (by rfl) (pa_cons (pe_ix ix_seq (pv 0) pe_int (fun _ _ => rfl)) pa_nil)))) (pe_one (pe_cmpR op_in_seq (pe_ix ix_seq (pv 0) pe_int (fun _ _ => rfl)) (pe_tup (pa_cons pe_str (pa_cons pe_str pa_nil))) (by with_unfolding_all rfl))))))), ?_⟩
    refine ⟨_, rfl, v, d, rfl, hv, fun H1 s1 => ⟨d.couple, rfl, ?_⟩⟩
    cases ht : d.two with
    | none =>
      have e1 : d.couple = false := by rw [couple_two, ht]; rfl
      have e2 : d.entry = false := by unfold Dat.entry; rw [ht]
      rw [e2] at q
      exact iteP (by rw [e1]; rfl) (q _ s1)
    | some p =>
      obtain ⟨x, y⟩ := p
      have e1 : d.couple = true := by rw [couple_two, ht]; rfl
      have e2 : d.entry = ((x.none0 || x.kind) && y.act) := by unfold Dat.entry; rw [ht]
      rw [e2] at q
      obtain ⟨a, vx, vy, rfl, hs, hx, hy⟩ := hv.two ht
      refine iteN (by rw [e1]; rfl) ?_
      have hs1 := hs.same s1
      by_cases hn : ∀ z, y ≠ .str z
      · obtain ⟨t, h1, h2⟩ := kitS (K := K) (hy.same s1) hn
        have ea : y.act = false := by
          cases y with
          | str z => exact absurd rfl (hn z)
          | _ => rfl
        rw [ea, Bool.and_false] at q
        exact ⟨_, rfl, ix1 hs1 ⟨_, _, _, _, false, rfl, .ty "str", h1, h2, false, rfl, iteT (q _ s1)⟩⟩
      obtain ⟨z, rfl⟩ : ∃ z, y = .str z := by
        apply Classical.byContradiction
        intro c
        exact hn fun z e => c ⟨z, e⟩
      cases hy
      refine ⟨_, rfl, ix1 hs1 ⟨_, _, _, _, true, rfl, .ty "str", .base (.str _), kit_ty (by decide +kernel), true, rfl, iteF ?_⟩⟩
      have fin : ∀ H2 t2, Same H H2 → H2 t2 = none → (x.none0 || x.kind) = true → Q (.bl (inV (.str z) [.str "waits", .str "leaves"])) (upd H2 t2 (.tup [.str "waits", .str "leaves"])) := fun H2 t2 s2 n2 e => by
        rw [in_act]
        rw [e, Bool.true_and] at q
        exact q _ (s2.trans (same_upd n2))
      by_cases hx0 : vx = .non
      · subst hx0
        have ex : x = .non := by cases hx with | non => rfl
        subst ex
        refine ⟨_, rfl, ix0 hs1 ⟨rfl, true, rfl, iteT ?_⟩⟩
        exact ⟨true, rfl, iteT ⟨_, rfl, ix1 hs1 ⟨(by show 2 ≤ sizeLine; decide), fun t2 n2 => ⟨t2, _, rfl, .inr (.of upd_same), rfl, rfl, fin _ t2 s1 n2 rfl⟩⟩⟩⟩
      · have en : x.none0 = false := by
          cases hx with
          | non => exact absurd rfl hx0
          | _ => rfl
        rw [en, Bool.false_or] at q fin
        refine ⟨_, rfl, ix0 hs1 ⟨rfl, _, rfl, iteN (decide_eq_false hx0) ?_⟩⟩
        refine ⟨_, rfl, ix0 hs1 ⟨vx, x, rfl, hx.same s1, fit x _ ht, fun H2 s2 => ⟨x.kind, rfl, ?_⟩⟩⟩
        by_cases ck : x.kind = true
        · refine iteP ck ?_
          exact ⟨_, rfl, ix1 (hs1.same s2) ⟨(by show 2 ≤ sizeLine; decide), fun t2 n2 => ⟨t2, _, rfl, .inr (.of upd_same), rfl, rfl, fin _ t2 (s1.trans s2) n2 ck⟩⟩⟩
        · have ck : x.kind = false := by simpa using ck
          refine iteN ck ?_
          rw [ck, Bool.false_and] at q
          exact q _ (s1.trans s2)
/-! is_record: slots 0:value 1:entry -/
abbrev s_is_record : Stmt := topS 35
theorem sc_is_record : FnScope ["value", "entry"] ["value"] (defScope s_is_record) := ⟨rfl, rfl, rfl, by decide +kernel, rfl, by decide +kernel, by decide +kernel⟩
def sp_is_record : Sp := fun vs H Q _ => ∃ (v : V) (d : Dat), vs = [v] ∧ Rp H v d ∧ d.fits ∧ ∀ H', Same H H' → Q (.bl d.recd) H'
theorem ok_is_record (D : Df K mg "is_record" s_is_record) (T : Tx mg) (G_is_listed : Has P w K mg base 1 "is_listed" ["value", "most"] sp_is_listed) (G_is_entry : Has P w K mg base 2 "is_entry" ["value"] sp_is_entry) : Has P w K mg base 3 "is_record" ["value"] sp_is_record := by
  refine has_of D sc_is_record (fun _ _ _ _ _ _ us hl => match us, hl with | [_], _ => rfl) (fun vs H Q E h => ?_) (fun f cdv A outer s H vs Q E hr h => ?_)
  · obtain ⟨v, r, rfl, _⟩ := h
    rfl
  · obtain ⟨v, d, rfl, hv, fit, q⟩ := h
    refine ⟨_, (pss_one (ps_ret (pe_and (pe_callH G_is_listed (hr.mono (by omega)) (by rfl) (pa_cons (pv 0) (pa_cons (pe_glI T.c_MAX_ENTRIES (by rfl)) pa_nil))) (pe_one (pe_callB (cr_all rfl) (by rfl) T.n_all (by decide +kernel) (pa_cons (pe_lc (own := [("entry", 1)]) rfl sc_is_record.nd (pi_seqV 0) (blkOk_by (N := ["value", "entry"]) (sc := defScope s_is_record) (by decide +kernel)) (fun _ _ _ _ _ => (pg_name (i := 1) sc_is_record.nd rfl (by first | exact Or.inl rfl | exact Or.inr rfl))) (fun _ _ _ _ _ => pts_nil) (fun _ _ _ _ _ => (pe_callH G_is_entry (hr.mono (by omega)) (by rfl) (pa_cons (pv 1) pa_nil)))) pa_nil)))))), ?_⟩
    refine ⟨_, rfl, v, d, 400, rfl, hv, fun H1 s1 => ⟨_, rfl, ?_⟩⟩
    by_cases cl : d.listed 400 = true
    · refine iteP cl ?_
      obtain ⟨l, hd⟩ : ∃ l, d.parts = some l := by
        cases hp : d.parts with
        | some l => exact ⟨l, rfl⟩
        | none =>
          unfold Dat.listed at cl
          rw [hp] at cl
          cases cl
      obtain ⟨a, xs, rfl, hx, hp⟩ := hv.seq hd
      have lx : xs.length = l.length := Paired.len hp
      obtain ⟨l5, fit⟩ := fit l hd
      have l4 : (l.length : Int) ≤ 400 := by
        unfold Dat.listed at cl
        rw [hd] at cl
        exact of_decide_eq_true cl
      have e0 : d.recd = l.all Dat.entry := by
        unfold Dat.recd
        rw [hd]
        show (decide _ && _) = _
        rw [decide_eq_true l4]
        rfl
      rw [e0] at q
      refine ⟨a, xs, rfl, hx.same s1, fun J wk L nL => lc_wk wk (fun i H' => Same H1 H' ∧ H' L = some (.lst (((l.take i).map Dat.entry).map V.bl))) (fun _ _ p => p.1) ⟨same_upd nL, upd_same⟩ (fun i x H2 ex p => ?_) (fun H2 p => ?_)⟩
      · obtain ⟨sm, hL⟩ := p
        obtain ⟨r, er, hr1⟩ := Paired.at hp ex
        have hi : i < xs.length := (List.getElem?_eq_some_iff.mp ex).1
        refine ⟨rfl, yesT ⟨_, rfl, x, r, rfl, hr1.same (s1.trans sm), fit r (List.mem_of_getElem? er), fun H3 s3 => ⟨_, s3 _ _ hL, ?_, same_grow nL (sm.trans s3), ?_⟩⟩⟩
        · simp only [List.length_map, List.length_take]
          exact small (by omega)
        · rw [upd_same, take_snoc er, List.map_append, List.map_append]
          rfl
      · rw [lx, List.take_length] at p
        refine ⟨L, _, rfl, .of p.2, ?_⟩
        rw [all_map]
        exact q _ (s1.trans p.1)
    · have cl : d.listed 400 = false := by simpa using cl
      have e0 : d.recd = false := by
        unfold Dat.recd
        unfold Dat.listed at cl
        cases hp : d.parts with
        | none => rfl
        | some l =>
          rw [hp] at cl
          have cl : decide ((l.length : Int) ≤ 400) = false := cl
          show (decide _ && _) = _
          rw [cl]
          rfl
      rw [e0] at q
      exact iteN cl (q _ s1)
end
end UP

set_option Elab.async false
set_option linter.all false
set_option maxRecDepth 100000
set_option maxHeartbeats 4000000
set_option pp.maxSteps 300
namespace UP
open PySem PySem.Spec PyProof.Rows L2
/-! ### the bag: a list of the cells, the next one, the rest of a large one, the number of draws, a mixed number -/
structure BagS where
  ns : List Int
  i : Int
  r : Int
  d : Int
  t : Int
def Bag (H : Hp) (p cl : Addr) (n : Nat) : Prop := ∃ b : BagS, H p = some (.lst [.ref cl, .int b.i, .int b.r, .int b.d, .int b.t]) ∧ H cl = some (.lst (b.ns.map V.int)) ∧ b.ns.length ≤ 63 ∧ 0 ≤ b.i ∧ b.i ≤ b.ns.length ∧ 0 ≤ b.r ∧ 0 ≤ b.d ∧ b.d ≤ n ∧ 0 ≤ b.t ∧ b.t < 2305843009213693951
theorem Bag.same {H H' : Hp} {p cl : Addr} {n : Nat} (z : Bag H p cl n) (s : Same H H') : Bag H' p cl n := by
  obtain ⟨b, h1, h2, r⟩ := z
  exact ⟨b, s _ _ h1, s _ _ h2, r⟩
theorem Bag.mono {H : Hp} {p cl : Addr} {n m : Nat} (z : Bag H p cl n) (l : n ≤ m) : Bag H p cl m := by
  obtain ⟨b, h1, h2, h3, h4, h5, h6, h7, h8, h9⟩ := z
  exact ⟨b, h1, h2, h3, h4, h5, h6, h7, by omega, h9⟩
theorem Bag.ne {H : Hp} {p cl q : Addr} {n : Nat} (z : Bag H p cl n) (h : H q = none) : q ≠ p := by
  obtain ⟨b, h1, _⟩ := z
  exact (ne_of_none h1 h).symm
theorem bag_ints {cl : Addr} {a b c d : Int} {ns : List Int} : HO.lst (ns.map V.int) ≠ .lst [.ref cl, .int a, .int b, .int c, .int d] := by
  intro q
  cases ns with
  | nil => cases q
  | cons x t => cases q
theorem Bag.cl_ne {H : Hp} {p cl : Addr} {n : Nat} (z : Bag H p cl n) : cl ≠ p := by
  obtain ⟨b, h1, h2, _⟩ := z
  exact ne_of h2 h1 bag_ints
/-- what is kept apart from the bag's list keeps the bag -/
theorem Bag.keep {H H' : Hp} {p cl : Addr} {n : Nat} (z : Bag H p cl n) (k : ∀ o, H p = some o → H' p = some o) (c : ∀ o, H cl = some o → H' cl = some o) : Bag H' p cl n := by
  obtain ⟨b, h1, h2, r⟩ := z
  exact ⟨b, k _ h1, c _ h2, r⟩
theorem at50 {α : Type} {x y z u w : α} : atI [x, y, z, u, w] 0 = some x := rfl
theorem at51 {α : Type} {x y z u w : α} : atI [x, y, z, u, w] 1 = some y := rfl
theorem at52 {α : Type} {x y z u w : α} : atI [x, y, z, u, w] 2 = some z := rfl
theorem at53 {α : Type} {x y z u w : α} : atI [x, y, z, u, w] 3 = some u := rfl
theorem at54 {α : Type} {x y z u w : α} : atI [x, y, z, u, w] 4 = some w := rfl
theorem atI_ofB {α : Type} {l : List α} {i : Int} {x : α} (h0 : 0 ≤ i) (h : l[i.toNat]? = some x) : atI l i = some x := by
  have : i < l.length := by
    obtain ⟨q, _⟩ := List.getElem?_eq_some_iff.mp h
    omega
  unfold atI ixN
  rw [if_pos h0, if_pos (by omega)]
  exact h
theorem p18 : (10 : Int) ^ ((18 : Int).toNat) = 1000000000000000000 := by decide +kernel
theorem wideB {m : Int} (h0 : 0 ≤ m) (h1 : m ≤ 1000000000000000000000000000000000000000000000000000000000000) : m.natAbs < 2 ^ 8000 :=
  Nat.lt_of_le_of_lt (m := 1000000000000000000000000000000000000000000000000000000000000) (by omega) (by decide +kernel)
section
variable {P : Program} {w : World} {K : PySem.W.Frag} {mg : Str → Option Value} {base : Heap}
/-! _law_bag: slots 0:script 1:total 2:cell -/
abbrev s_law_bag : Stmt := topS 51
theorem sc_law_bag : FnScope ["script", "total", "cell"] ["script"] (defScope s_law_bag) := ⟨rfl, rfl, rfl, by decide +kernel, rfl, by decide +kernel, by decide +kernel⟩
def sp_law_bag (K : PySem.W.Frag) : Sp := fun vs H Q _ => ∃ (a : Addr) (ns : List Int), vs = [.ref a] ∧ SqL K H a (ns.map V.int) ∧ ns.length ≤ 63 ∧ ∀ H' p cl, Same H H' → H p = none → H cl = none → Bag H' p cl 0 → Q (.ref p) H'
theorem ok_law_bag (D : Df K mg "_law_bag" s_law_bag) (T : Tx mg) : Has P w K mg base 1 "_law_bag" ["script"] (sp_law_bag K) := by
  refine has_of D sc_law_bag (fun _ _ _ _ _ _ us hl => match us, hl with | [_], _ => rfl) (fun vs H Q E h => ?_) (fun f cdv A outer s₀ H vs Q E hr h => ?_)
  · obtain ⟨_, _, rfl, _⟩ := h
    rfl
  · obtain ⟨a, ns, rfl, hS, l63, q⟩ := h
    refine ⟨_, (pss_cons (ps_set (i := 1) sc_law_bag.nd rfl (by first | exact Or.inl rfl | exact Or.inr rfl) pe_int)
    (pss_cons (ps_for PassesOwn.never rfl (pi_list (pv 0)) (pg_name (i := 2) sc_law_bag.nd rfl (by first | exact Or.inl rfl | exact Or.inr rfl))
      (pss_one (ps_set (i := 1) sc_law_bag.nd rfl (by first | exact Or.inl rfl | exact Or.inr rfl) (pe_op op_mod (pe_op op_add (pe_op op_add (pe_op op_mul (pv 1) pe_int) (pe_op op_mod (pv 2) pe_int)) pe_int) pe_int))))
    (pss_one (ps_ret (pe_lst (pa_cons (pe_callTy call_list_of (by rfl) T.n_list (by decide +kernel) (pa_cons (pv 0) pa_nil)) (pa_cons pe_int (pa_cons pe_int (pa_cons pe_int (pa_cons (pv 1) pa_nil)))))))))), ?_⟩
    refine ⟨_, rfl, a, rfl, ⟨_, hS⟩, for_list (K := K) (a := a) (xs := ns.map V.int) (fun i σ H' => ∃ (t : Int) (y : Option V), σ = [some (.ref a), some (.int t), y] ∧ H' = H ∧ 0 ≤ t ∧ t < 2305843009213693951)
      ⟨1, none, rfl, rfl, by decide, by decide⟩ (fun i σ H' _ hP => ?_) (fun i x σ H1 ex hP => ?_) (fun σ H1 hP => ?_)⟩
    · obtain ⟨_, _, _, rfl, _⟩ := hP
      exact hS
    · obtain ⟨t, y, rfl, rfl, t0, t1⟩ := hP
      rw [List.getElem?_map] at ex
      cases e : ns[i]? with
      | none =>
        rw [e] at ex
        cases ex
      | some c =>
        rw [e] at ex
        cases ex
        refine ⟨_, rfl, _, _, rfl, rfl, .inr ⟨by decide, by decide⟩, _, rfl, _, _, rfl, rfl, (by show (0 : Int) < _; decide), _, _, rfl, rfl, _, _, rfl, rfl, _, _, rfl, rfl, (by show (0 : Int) < _; decide), ?_⟩
        exact ⟨_, _, rfl, rfl, Int.emod_nonneg _ (by decide), Int.emod_lt_of_pos _ (by decide)⟩
    · obtain ⟨t, y, rfl, rfl, t0, t1⟩ := hP
      refine ⟨_, rfl, a, _, rfl, .inl hS, fun cl ncl => ⟨_, rfl, (by show 5 ≤ sizeLine; decide), fun p np => ?_⟩⟩
      have s1 := same_upd (o := .lst (ns.map V.int)) ncl
      have s2 := same_upd (o := .lst [.ref cl, .int 0, .int 0, .int 0, .int t]) np
      exact q _ p cl (s1.trans s2) (s1.free np) ncl ⟨⟨ns, 0, 0, 0, t⟩, upd_same, s2 _ _ upd_same, l63, Int.le_refl _, by show (0 : Int) ≤ _; omega, Int.le_refl _, Int.le_refl _, by show (0 : Int) ≤ ((0 : Nat) : Int); decide, t0, t1⟩
/-! _law_stir: slots 0:number 1:place 2:one 3:two -/
abbrev s_law_stir : Stmt := topS 52
theorem sc_law_stir : FnScope ["number", "place", "one", "two"] ["number", "place"] (defScope s_law_stir) := ⟨rfl, rfl, rfl, by decide +kernel, rfl, by decide +kernel, by decide +kernel⟩
def sp_law_stir : Sp := fun vs H Q _ => ∃ (a d : Int), vs = [.int a, .int d] ∧ 0 ≤ a ∧ a < 2305843009213693951 ∧ 0 ≤ d ∧ d ≤ 1000000000000000 ∧ ∀ r, Q (.int r) H
theorem ok_law_stir (D : Df K mg "_law_stir" s_law_stir) (T : Tx mg) : Has P w K mg base 1 "_law_stir" ["number", "place"] sp_law_stir := by
  refine has_of D sc_law_stir (fun _ _ _ _ _ _ us hl => match us, hl with | [_, _], _ => rfl) (fun vs H Q E h => ?_) (fun f cdv A outer s₀ H vs Q E hr h => ?_)
  · obtain ⟨_, _, rfl, _⟩ := h
    rfl
  · obtain ⟨a, d, rfl, a0, a1, d0, d1, q⟩ := h
    refine ⟨_, (pss_cons (ps_set (i := 2) sc_law_stir.nd rfl (by first | exact Or.inl rfl | exact Or.inr rfl) (pe_op op_mod (pe_op op_add (pe_op op_add (pe_op op_mul (pv 0) pe_int) (pe_op op_mul (pv 1) pe_int)) pe_int) pe_int))
    (pss_cons (ps_set (i := 3) sc_law_stir.nd rfl (by first | exact Or.inl rfl | exact Or.inr rfl) (pe_op op_mod (pe_op op_mul (pv 2) (pv 2)) pe_int))
    (pss_one (ps_ret (pe_op op_fdiv (pe_op op_mod (pe_op op_add (pe_op op_add (pe_op op_mul (pv 3) pe_int) (pe_op op_mul (pe_op op_mul (pv 1) (pv 1)) pe_int)) (pe_op op_fdiv (pv 2) pe_int)) pe_int) pe_int))))), ?_⟩
    refine ⟨_, rfl, _, _, rfl, rfl, .inr ⟨by decide, by decide⟩, _, rfl, _, _, rfl, rfl, .inr ⟨by decide, by decide⟩, _, _, rfl, rfl, _, _, rfl, rfl, _, _, rfl, rfl, (by show (0 : Int) < _; decide), ?_⟩
    have e0 := Int.emod_nonneg (a * 998244353 + d * 1000000007 + 5) (b := 2305843009213693951) (by decide)
    have e1 := Int.emod_lt_of_pos (a * 998244353 + d * 1000000007 + 5) (b := 2305843009213693951) (by decide)
    generalize (a * 998244353 + d * 1000000007 + 5) % 2305843009213693951 = one at *
    refine ⟨_, rfl, _, rfl, _, _, rfl, rfl, .inl ⟨by omega, by omega⟩, _, _, rfl, rfl, (by show (0 : Int) < _; decide), ?_⟩
    refine ⟨_, rfl, _, _, rfl, rfl, .inr ⟨by decide, by decide⟩, _, rfl, _, rfl, _, _, rfl, rfl, .inl ⟨by omega, by omega⟩, _, _, rfl, rfl, .inr ⟨by decide, by decide⟩, _, _, rfl, rfl, _, rfl, _, _, rfl, rfl, ⟨by decide, by decide⟩, _, _, rfl, rfl, _, _, rfl, rfl, (by show (0 : Int) < _; decide), _, _, rfl, rfl, ⟨by decide, by decide⟩, q _⟩
/-! _law_draw: slots 0:bag 1:bound 2:found 3:cell -/
abbrev s_law_draw : Stmt := topS 53
theorem sc_law_draw : FnScope ["bag", "bound", "found", "cell"] ["bag", "bound"] (defScope s_law_draw) := ⟨rfl, rfl, rfl, by decide +kernel, rfl, by decide +kernel, by decide +kernel⟩
def sp_law_draw : Sp := fun vs H Q _ => ∃ (p cl : Addr) (n : Nat) (m : Int), vs = [.ref p, .int m] ∧ Bag H p cl n ∧ n + 1 ≤ 1000000000000000 ∧ 1 ≤ m ∧ m.natAbs < 2 ^ 8000 ∧ ∀ H' r, But p H H' → Bag H' p cl (n + 1) → 0 ≤ r → r < m → Q (.int r) H'
theorem ok_law_draw (D : Df K mg "_law_draw" s_law_draw) (T : Tx mg) (G_law_stir : Has P w K mg base 1 "_law_stir" ["number", "place"] sp_law_stir) : Has P w K mg base 2 "_law_draw" ["bag", "bound"] sp_law_draw := by
  refine has_of D sc_law_draw (fun _ _ _ _ _ _ us hl => match us, hl with | [_, _], _ => rfl) (fun vs H Q E h => ?_) (fun f cdv A outer s₀ H vs Q E hr h => ?_)
  · obtain ⟨_, _, _, _, rfl, _⟩ := h
    rfl
  · obtain ⟨p, cl, n, m, rfl, z, nb, m1, m2, q⟩ := h
    have z0 := z
    have cp := z.cl_ne
    obtain ⟨⟨ns, i, r, d, t⟩, hp, hc, l63, i0, i1, r0, d0, d1, t0, t1⟩ := z
    have hp : H p = some (.lst [.ref cl, .int i, .int r, .int d, .int t]) := hp
    have hc : H cl = some (.lst (ns.map V.int)) := hc
    have l63 : ns.length ≤ 63 := l63
    have i0 : 0 ≤ i := i0
    have i1 : i ≤ ns.length := i1
    have r0 : 0 ≤ r := r0
    have d0 : 0 ≤ d := d0
    have d1 : d ≤ n := d1
    have t0 : 0 ≤ t := t0
    have t1 : t < 2305843009213693951 := t1
    have e0 : ∀ x : Int, 0 ≤ x % m := fun x => Int.emod_nonneg _ (by omega)
    have e1 : ∀ x : Int, x % m < m := fun x => Int.emod_lt_of_pos _ (by omega)
    refine ⟨_, (pss_cons (ps_if (pt_cmpR op_eq (pv 1) pe_int (nomark _)) (pss_one (ps_ret pe_int)) pss_nil)
    (pss_cons (ps_asg (pe_op op_add (pe_ix ix_list (pv 0) pe_int (fun _ _ => rfl)) pe_int) (pg_sub (pv 0) pe_int set_list))
    (pss_cons (ps_if (PW.pt (pw_and (pt_cmpR op_lt (pe_ix ix_list (pv 0) pe_int (fun _ _ => rfl)) pe_int (nomark _)) (pw_and1 (pt_cmpR op_eq (pe_ix ix_list (pv 0) pe_int (fun _ _ => rfl)) (pe_callB call_len_seq (by rfl) T.n_len (by decide +kernel) (pa_cons (pe_ix ix_list (pv 0) pe_int (fun _ _ => rfl)) pa_nil)) (nomark _))))) (pss_one (ps_ret (pe_op op_mod (pe_callH G_law_stir (hr.mono (by omega)) (by rfl) (pa_cons (pe_ix ix_list (pv 0) pe_int (fun _ _ => rfl)) (pa_cons (pe_ix ix_list (pv 0) pe_int (fun _ _ => rfl)) pa_nil))) (pv 1)))) pss_nil)
    (C8.pss_cut (ps_if (pt_cmpR op_lt (pe_ix ix_list (pv 0) pe_int (fun _ _ => rfl)) pe_int (nomark _)) (pss_cons (ps_set (i := 3) sc_law_draw.nd rfl (by first | exact Or.inl rfl | exact Or.inr rfl) (pe_ix ix_list (pe_ix ix_list (pv 0) pe_int (fun _ _ => rfl)) (pe_ix ix_list (pv 0) pe_int (fun _ _ => rfl)) (fun _ _ => rfl)))
    (pss_cons (ps_asg (pe_op op_add (pe_ix ix_list (pv 0) pe_int (fun _ _ => rfl)) pe_int) (pg_sub (pv 0) pe_int set_list))
    (pss_cons (ps_if (pt_cmpR op_lt (pv 3) (pe_op op_pow pe_int pe_int) (nomark _)) (pss_one (ps_ret (pe_op op_mod (pe_callH G_law_stir (hr.mono (by omega)) (by rfl) (pa_cons (pe_op op_mod (pv 3) pe_int) (pa_cons (pe_ix ix_list (pv 0) pe_int (fun _ _ => rfl)) pa_nil))) (pv 1)))) pss_nil)
    (pss_one (ps_asg (pe_op op_sub (pv 3) (pe_op op_pow pe_int pe_int)) (pg_sub (pv 0) pe_int set_list)))))) pss_nil)
    (pss_cons (ps_set (i := 2) sc_law_draw.nd rfl (by first | exact Or.inl rfl | exact Or.inr rfl) (pe_op op_mod (pe_ix ix_list (pv 0) pe_int (fun _ _ => rfl)) (pv 1)))
    (pss_cons (ps_asg (pe_op op_fdivW (pe_ix ix_list (pv 0) pe_int (fun _ _ => rfl)) (pv 1)) (pg_sub (pv 0) pe_int set_list))
    (pss_one (ps_ret (pv 2))))))))), ?_⟩
    refine ⟨_, rfl, rfl, _, rfl, ite2 (fun _ => ?_) (fun _ => ?_)⟩
    · exact q _ _ But.refl (z0.mono (Nat.le_succ _)) (Int.le_refl _) (by omega)
    refine ⟨_, rfl, p, _, 3, _, rfl, rfl, .of hp, at53, _, _, rfl, rfl, _, rfl, p, _, 3, 3, rfl, rfl, hp, rfl, ?_⟩
    have B1 : But p H (upd H p (.lst [.ref cl, .int i, .int r, .int (d + 1), .int t])) := but_upd
    have hp1 : (upd H p (.lst [.ref cl, .int i, .int r, .int (d + 1), .int t])) p = some (.lst [.ref cl, .int i, .int r, .int (d + 1), .int t]) := upd_same
    have hc1 := B1 _ _ cp hc
    show tSeq _ _ _ _ (upd H p (.lst [.ref cl, .int i, .int r, .int (d + 1), .int t]))
    generalize upd H p (.lst [.ref cl, .int i, .int r, .int (d + 1), .int t]) = H1 at *
    have lm : (ns.map V.int).length = ns.length := List.length_map ..
    have mk : ∀ (H' : Hp) (i' r' : Int), But p H1 H' → H' p = some (.lst [.ref cl, .int i', .int r', .int (d + 1), .int t]) → 0 ≤ i' → i' ≤ ns.length → 0 ≤ r' → But p H H' ∧ Bag H' p cl (n + 1) := fun H' i' r' b hb j0 j1 k0 =>
      ⟨B1.trans b, ⟨ns, i', r', d + 1, t⟩, hb, b _ _ cp hc1, l63, j0, j1, k0, by show 0 ≤ d + 1; omega, by show d + 1 ≤ ((n + 1 : Nat) : Int); omega, t0, t1⟩
    have out : ∀ (H' : Hp) (i' r' x : Int), But p H1 H' → H' p = some (.lst [.ref cl, .int i', .int r', .int (d + 1), .int t]) → 0 ≤ i' → i' ≤ ns.length → 0 ≤ r' → Q (.int (x % m)) H' := fun H' i' r' x b hb j0 j1 k0 => by
      obtain ⟨k1, k2⟩ := mk H' i' r' b hb j0 j1 k0
      exact q _ _ k1 k2 (e0 x) (e1 x)
    refine ⟨_, rfl, p, _, 2, _, rfl, rfl, .of hp1, at52, _, _, rfl, rfl, _, rfl, ?_⟩
    have rest : ∀ (H2 : Hp) (i' r' : Int), But p H1 H2 → H2 p = some (.lst [.ref cl, .int i', .int r', .int (d + 1), .int t]) → 0 ≤ i' → i' ≤ ns.length → 0 ≤ r' →
        ∀ H3, H3 = upd H2 p (.lst [.ref cl, .int i', .int (r' / m), .int (d + 1), .int t]) → Q (.int (r' % m)) H3 := fun H2 i' r' b hb j0 j1 k0 H3 e3 => by
      subst e3
      exact out _ i' (r' / m) r' (b.trans but_upd) upd_same j0 j1 (Int.ediv_nonneg k0 (by omega))
    by_cases c2 : r < 2
    · refine iteP (decide_eq_true c2) ⟨_, rfl, p, _, 1, _, rfl, rfl, .of hp1, at51, _, rfl, p, _, 0, _, rfl, rfl, .of hp1, at50, cl, _, rfl, .inl (.of hc1), rfl, _, rfl, ?_⟩
      rw [lm]
      by_cases ci : i = ns.length
      · refine iteP (decide_eq_true (by rw [ci])) ⟨_, rfl, p, _, 4, _, rfl, rfl, .of hp1, at54, _, rfl, p, _, 3, _, rfl, rfl, .of hp1, at53, t, d + 1, rfl, t0, t1, by omega, by omega, fun x => ⟨_, rfl, _, _, rfl, rfl, (by omega), ?_⟩⟩
        exact out _ i r x But.refl hp1 i0 i1 r0
      · have ci2 : i < ns.length := by omega
        refine iteN (decide_eq_false (fun z => ci (V.int.inj z))) ?_
        obtain ⟨c, ec⟩ : ∃ c, ns[i.toNat]? = some c := ⟨_, List.getElem?_eq_getElem (by omega)⟩
        have eci : atI (ns.map V.int) i = some (.int c) := atI_ofB i0 (by rw [List.getElem?_map, ec]; rfl)
        refine ⟨fun σ' H' => ∃ i' r' y3, σ' = [some (.ref p), some (.int m), none, y3] ∧ But p H1 H' ∧ H' p = some (.lst [.ref cl, .int i', .int r', .int (d + 1), .int t]) ∧ 0 ≤ i' ∧ i' ≤ ns.length ∧ 0 ≤ r', ?_, fun σ' H2 hM => ?_⟩
        · refine ⟨_, rfl, p, _, 2, _, rfl, rfl, .of hp1, at52, _, _, rfl, rfl, _, rfl, iteP (decide_eq_true c2) ?_⟩
          refine ⟨_, rfl, p, _, 0, _, rfl, rfl, .of hp1, at50, _, rfl, p, _, 1, _, rfl, rfl, .of hp1, at51, cl, _, i, _, rfl, rfl, .of hc1, eci, ?_⟩
          refine ⟨_, rfl, p, _, 1, _, rfl, rfl, .of hp1, at51, _, _, rfl, rfl, _, rfl, p, _, 1, 1, rfl, rfl, hp1, rfl, ?_⟩
          have B2 : But p H1 (upd H1 p (.lst [.ref cl, .int (i + 1), .int r, .int (d + 1), .int t])) := but_upd
          have hp2 : (upd H1 p (.lst [.ref cl, .int (i + 1), .int r, .int (d + 1), .int t])) p = some (.lst [.ref cl, .int (i + 1), .int r, .int (d + 1), .int t]) := upd_same
          show tSeq _ _ _ _ (upd H1 p (.lst [.ref cl, .int (i + 1), .int r, .int (d + 1), .int t]))
          generalize upd H1 p (.lst [.ref cl, .int (i + 1), .int r, .int (d + 1), .int t]) = H2 at *
          refine ⟨_, rfl, _, _, rfl, rfl, ⟨by decide, by decide, by decide⟩, _, _, rfl, rfl, _, rfl, ite2 (fun c3 => ?_) (fun c3 => ?_)⟩
          · refine ⟨_, rfl, _, _, rfl, rfl, (by show (0 : Int) < _; decide), _, rfl, p, _, 3, _, rfl, rfl, .of hp2, at53, _, d + 1, rfl, Int.emod_nonneg _ (by decide), Int.emod_lt_of_pos _ (by decide), by omega, by omega, fun x => ⟨_, rfl, _, _, rfl, rfl, (by omega), ?_⟩⟩
            exact out _ (i + 1) r x B2 hp2 (by omega) (by omega) r0
          · have c3 : ¬ c < (10 : Int) ^ ((18 : Int).toNat) := fun z => c3 (decide_eq_true z)
            refine ⟨_, rfl, _, _, rfl, rfl, ⟨by decide, by decide, by decide⟩, _, _, rfl, rfl, _, rfl, p, _, 2, 2, rfl, rfl, hp2, rfl, ?_⟩
            exact ⟨i + 1, _, _, rfl, B2.trans but_upd, upd_same, by omega, by omega, by omega⟩
        · obtain ⟨i', r', y3, rfl, b2, hp2, j0, j1, k0⟩ := hM
          refine ⟨_, rfl, p, _, 2, _, rfl, rfl, .of hp2, at52, _, rfl, _, _, rfl, rfl, (by omega), ?_⟩
          refine ⟨_, rfl, p, _, 2, _, rfl, rfl, .of hp2, at52, _, rfl, _, _, rfl, rfl, wide_div (by omega) m2 (by decide) (by decide), _, rfl, p, _, 2, 2, rfl, rfl, hp2, rfl, ?_⟩
          exact ⟨_, rfl, rest H2 i' r' b2 hp2 j0 j1 k0 _ rfl⟩
    · refine iteN (decide_eq_false c2) ?_
      refine ⟨fun σ' H' => σ' = [some (.ref p), some (.int m), none, none] ∧ H' = H1, ?_, fun σ' H2 hM => ?_⟩
      · exact ⟨_, rfl, p, _, 2, _, rfl, rfl, .of hp1, at52, _, _, rfl, rfl, _, rfl, iteN (decide_eq_false c2) ⟨rfl, rfl⟩⟩
      · obtain ⟨rfl, rfl⟩ := hM
        refine ⟨_, rfl, p, _, 2, _, rfl, rfl, .of hp1, at52, _, rfl, _, _, rfl, rfl, (by omega), ?_⟩
        refine ⟨_, rfl, p, _, 2, _, rfl, rfl, .of hp1, at52, _, rfl, _, _, rfl, rfl, wide_div (by omega) m2 (by decide) (by decide), _, rfl, p, _, 2, 2, rfl, rfl, hp1, rfl, ?_⟩
        exact ⟨_, rfl, rest _ i r But.refl hp1 i0 i1 r0 _ rfl⟩
end
end UP

set_option Elab.async false
set_option linter.all false
set_option maxRecDepth 100000
set_option maxHeartbeats 4000000
set_option pp.maxSteps 300
namespace UP
open PySem PySem.Spec PyProof.Rows L2
instance (s : Str) : Decidable (KindOk s) := by
  unfold KindOk
  infer_instance
/-! ### texts -/
theorem sIx_m1 (n d : Nat) : HT.sIx (n + 1) d (some (-1)) = n := by
  show (if (-1 : Int) < 0 then ((-1 : Int) + ((n + 1 : Nat) : Int)).toNat else min (-1 : Int).toNat (n + 1)) = n
  rw [if_pos (by decide)]
  omega
theorem cut_head {a z : Str} {c : Nat} (h : TL.tl z = TL.tl a ++ [c]) : cutS z none (some (-1)) = a := by
  have hl : z.length = a.length + 1 := by
    rw [TL.len_tl, h, List.length_append, ← TL.len_tl]
    rfl
  refine TL.ext_tl ?_
  unfold cutS
  rw [hl, sIx_m1, HT.sIx_none]
  show ((TL.tl z).drop 0).take (a.length - 0) = _
  rw [h, List.drop_zero, Nat.sub_zero, TL.len_tl, List.take_left]
theorem cut_tail {a z : Str} {c : Nat} (h : TL.tl z = TL.tl a ++ [c]) : cutS z (some (-1)) none = ⟨#[c]⟩ := by
  have hl : z.length = a.length + 1 := by
    rw [TL.len_tl, h, List.length_append, ← TL.len_tl]
    rfl
  refine TL.ext_tl ?_
  unfold cutS
  rw [hl, sIx_m1, HT.sIx_none]
  show ((TL.tl z).drop a.length).take (a.length + 1 - a.length) = [c]
  rw [h, TL.len_tl, List.drop_left, show (TL.tl a).length + 1 - (TL.tl a).length = 1 by omega]
  rfl
theorem at_tail {a z : Str} {c : Nat} (h : TL.tl z = TL.tl a ++ [c]) : atI z.cps.toList (-1) = some c := by
  show atI (TL.tl z) (-1) = some c
  rw [h]
  exact atI_last _ _
theorem tl_sp : TL.tl (" " : Str) = [32] := by decide +kernel
theorem join_len (ws : List Str) : (Txt.join " " ws).length ≤ (ws.map (·.length)).sum + ws.length := by
  rw [TL.len_tl, TL.join_eq, TL.tl_join, tl_sp]
  have : ∀ l : List Str, (TL.joinL [32] (l.map TL.tl)).length ≤ (l.map (·.length)).sum + l.length := by
    intro l
    induction l with
    | nil => exact Nat.zero_le _
    | cons p t ih =>
      cases t with
      | nil =>
        show (TL.tl p).length ≤ p.length + 0 + 1
        rw [← TL.len_tl]
        omega
      | cons q r =>
        show (TL.tl p ++ ([32] ++ TL.joinL [32] ((q :: r).map TL.tl))).length ≤ (p.length + ((q :: r).map (·.length)).sum) + ((q :: r).length + 1)
        rw [List.length_append, List.length_append, ← TL.len_tl]
        show p.length + (1 + _) ≤ _
        omega
  exact this ws
theorem sum_le {ws : List Str} {n : Nat} (h : ∀ w ∈ ws, w.length ≤ n) : (ws.map (·.length)).sum ≤ n * ws.length := by
  induction ws with
  | nil => exact Nat.zero_le _
  | cons p t ih =>
    have h1 := h p (List.mem_cons_self ..)
    have h2 := ih fun w hw => h w (List.mem_cons_of_mem _ hw)
    show p.length + (t.map (·.length)).sum ≤ n * (t.length + 1)
    rw [Nat.mul_succ]
    omega
/-- words without a blank are found again -/
theorem split_words {ws : List Str} (ne : ws ≠ []) (h : ∀ w ∈ ws, 32 ∉ TL.tl w) : Txt.split (Txt.join " " ws) " " = ws := TL.split_join tl_sp (by decide +kernel) ne h
theorem join_ne {ws : List Str} (ne : ws ≠ []) (h : ∀ w ∈ ws, TL.tl w ≠ []) : Txt.join " " ws ≠ "" := fun e => by
  have e2 := congrArg TL.tl e
  rw [TL.join_eq, TL.tl_join, show TL.tl ("" : Str) = [] by decide +kernel] at e2
  cases ws with
  | nil => exact ne rfl
  | cons p t =>
    have hp := h p (List.mem_cons_self ..)
    cases t with
    | nil => exact hp e2
    | cons q r =>
      have e2 : TL.tl p ++ (TL.tl (" " : Str) ++ TL.joinL (TL.tl (" " : Str)) ((q :: r).map TL.tl)) = [] := e2
      exact hp (List.append_eq_nil_iff.mp e2).1
theorem join_nil : Txt.join " " [] = "" := by
  refine TL.ext_tl ?_
  rw [TL.join_eq, TL.tl_join]
  exact (show TL.tl ("" : Str) = [] by decide +kernel).symm
theorem kind_tl {k : Str} (h : KindOk k) {c : Nat} (hc : c ∈ TL.tl k) : 97 ≤ c ∧ c ≤ 122 := h.2.2 c hc
/-! ### entries of records -/
abbrev En := Option Str × Bool
def actS (b : Bool) : Str := if b then "waits" else "leaves"
def sgnS (b : Bool) : Str := if b then "+" else "-"
def sgnC (b : Bool) : Nat := if b then 43 else 45
def kdS (k : Option Str) : Str := k.getD "?"
def koV : Option Str → V
  | none => .non
  | some s => .str s
def wdS (e : En) : Str := kdS e.1 ++ sgnS e.2
def EnOk (e : En) : Prop := ∀ k, e.1 = some k → KindOk k
theorem tl_sgn (b : Bool) : TL.tl (sgnS b) = [sgnC b] := by cases b <;> decide +kernel
theorem tl_q : TL.tl ("?" : Str) = [63] := by decide +kernel
theorem sgn_eq (b : Bool) : (⟨#[sgnC b]⟩ : Str) = sgnS b := TL.ext_tl (tl_sgn b).symm
theorem tl_wd (e : En) : TL.tl (wdS e) = TL.tl (kdS e.1) ++ [sgnC e.2] := by
  unfold wdS
  rw [TL.tl_append, tl_sgn]
theorem kd_free {e : En} (h : EnOk e) : 32 ∉ TL.tl (kdS e.1) := fun hm => by
  obtain ⟨k, b⟩ := e
  cases k with
  | none =>
    have hm : 32 ∈ TL.tl ("?" : Str) := hm
    rw [tl_q] at hm
    exact absurd hm (by decide)
  | some k =>
    have := kind_tl (h k rfl) hm
    omega
theorem wd_free {e : En} (h : EnOk e) : 32 ∉ TL.tl (wdS e) := fun hm => by
  rw [tl_wd] at hm
  rcases List.mem_append.mp hm with z | z
  · exact kd_free h z
  · have := List.mem_singleton.mp z
    obtain ⟨k, b⟩ := e
    cases b
    · exact absurd (show (32 : Nat) = 45 from this) (by decide)
    · exact absurd (show (32 : Nat) = 43 from this) (by decide)
theorem wd_ne (e : En) : TL.tl (wdS e) ≠ [] := by
  rw [tl_wd]
  simp
theorem kd_len {e : En} (h : EnOk e) : (kdS e.1).length ≤ 8 := by
  obtain ⟨k, b⟩ := e
  cases k with
  | none =>
    show ("?" : Str).length ≤ 8
    decide +kernel
  | some k => exact (h k rfl).2.1
theorem sgn_len (b : Bool) : (sgnS b).length = 1 := by
  rw [TL.len_tl, tl_sgn]
  rfl
theorem wd_len {e : En} (h : EnOk e) : (wdS e).length ≤ 9 := by
  have := kd_len h
  rw [TL.len_tl, tl_wd, List.length_append, ← TL.len_tl]
  show (kdS e.1).length + 1 ≤ 9
  omega
theorem kd_q {e : En} (h : EnOk e) : kdS e.1 = "?" ↔ e.1 = none := by
  obtain ⟨k, b⟩ := e
  cases k with
  | none => exact ⟨fun _ => rfl, fun _ => rfl⟩
  | some k =>
    refine ⟨fun z => ?_, fun z => by cases z⟩
    have z : k = "?" := z
    have h := h k rfl
    rw [z] at h
    exact absurd h (by decide +kernel)
/-- a record's text -/
def rtS (es : List En) : Str := Txt.join " " (es.map wdS)
theorem rt_len {es : List En} (h : ∀ e ∈ es, EnOk e) (l : es.length ≤ 400) : (rtS es).length ≤ 4000 := by
  have h1 := join_len (es.map wdS)
  have h2 := sum_le (ws := es.map wdS) (n := 9) (fun w hw => by
    obtain ⟨e, he, rfl⟩ := List.mem_map.mp hw
    exact wd_len (h e he))
  rw [List.length_map] at h1 h2
  show (Txt.join " " (es.map wdS)).length ≤ 4000
  omega
def EnV (H : Hp) (v : V) (e : En) : Prop := ∃ t, v = .ref t ∧ H t = some (.tup [koV e.1, .str (actS e.2)])
def EnG (H : Hp) (v : V) (e : En) : Prop := ∃ t, v = .ref t ∧ Sq2 H t [koV e.1, .str (actS e.2)]
def RecG (H : Hp) (v : V) (es : List En) : Prop := ∃ a xs, v = .ref a ∧ Sq2 H a xs ∧ Paired (EnG H) xs es
def Rec (H : Hp) (a : Addr) (es : List En) : Prop := ∃ xs, H a = some (.lst xs) ∧ Paired (EnV H) xs es
theorem EnV.tk {H H' : Hp} {v : V} {e : En} (h : EnV H v e) (k : ∀ t xs, H t = some (.tup xs) → H' t = some (.tup xs)) : EnV H' v e := by
  obtain ⟨t, rfl, ht⟩ := h
  exact ⟨t, rfl, k _ _ ht⟩
theorem EnV.same {H H' : Hp} {v : V} {e : En} (s : Same H H') (h : EnV H v e) : EnV H' v e := h.tk fun _ _ e => s _ _ e
theorem EnG.same {H H' : Hp} {v : V} {e : En} (s : Same H H') (h : EnG H v e) : EnG H' v e := by
  obtain ⟨t, rfl, ht⟩ := h
  exact ⟨t, rfl, ht.same s⟩
theorem RecG.same {H H' : Hp} {v : V} {es : List En} (s : Same H H') (h : RecG H v es) : RecG H' v es := by
  obtain ⟨a, xs, rfl, hx, hp⟩ := h
  exact ⟨a, xs, rfl, hx.same s, Paired.imp (fun _ _ z => EnG.same s z) hp⟩
theorem EnV.dress {H : Hp} {v : V} {e : En} (h : EnV H v e) : EnG H v e := by
  obtain ⟨t, rfl, ht⟩ := h
  exact ⟨t, rfl, .inr ht⟩
theorem Rec.dress {H : Hp} {a : Addr} {es : List En} (h : Rec H a es) : RecG H (.ref a) es := by
  obtain ⟨xs, hx, hp⟩ := h
  exact ⟨a, xs, rfl, .inl hx, Paired.imp (fun _ _ => EnV.dress) hp⟩
theorem Rec.same {H H' : Hp} {a : Addr} {es : List En} (s : Same H H') (h : Rec H a es) : Rec H' a es := by
  obtain ⟨xs, hx, hp⟩ := h
  exact ⟨xs, s _ _ hx, Paired.imp (fun _ _ z => EnV.same s z) hp⟩
/-! ### the written dicts -/
structure TexT (K : PySem.W.Frag) (w : World) (mg : Str → Option Value) (aM aA : Addr) : Prop where
  a_MARKS : mg "MARKS" = some (.ref aM)
  m1 : KDct K w aM "waits" (.str "+")
  m2 : KDct K w aM "leaves" (.str "-")
  a_ACTIONS : mg "ACTIONS" = some (.ref aA)
  a1 : KDct K w aA "+" (.str "waits")
  a2 : KDct K w aA "-" (.str "leaves")
section
variable {X : Cx} {K : PySem.W.Frag} {w : World}
theorem ix_kdictK (h : X.K = K) (h2 : X.w = w) : IxR X (rIxD K w) := by
  subst h
  subst h2
  exact ix_kdict
end
theorem TexT.mk_ {K : PySem.W.Frag} {w : World} {mg : Str → Option Value} {aM aA : Addr} (T : TexT K w mg aM aA) (b : Bool) : KDct K w aM (actS b) (.str (sgnS b)) := by
  cases b
  · exact T.m2
  · exact T.m1
theorem TexT.ac_ {K : PySem.W.Frag} {w : World} {mg : Str → Option Value} {aM aA : Addr} (T : TexT K w mg aM aA) (b : Bool) : KDct K w aA (sgnS b) (.str (actS b)) := by
  cases b
  · exact T.a2
  · exact T.a1
theorem act_in (b : Bool) : inV (.str (actS b)) [.str "waits", .str "leaves"] = true := by cases b <;> decide +kernel
theorem sgn_in (b : Bool) : inV (.str (sgnS b)) [.str "+", .str "-"] = true := by cases b <;> decide +kernel
end UP

set_option Elab.async false
set_option linter.all false
set_option maxRecDepth 100000
set_option maxHeartbeats 4000000
set_option pp.maxSteps 400
namespace UP
open PySem PySem.Spec PyProof.Rows L2
theorem tl_star : TL.tl ("*" : Str) = [42] := by decide +kernel
/-! ### the words of any text -/
def splL : List Nat → List (List Nat)
  | [] => [[]]
  | c :: t => if c = 32 then [] :: splL t else match splL t with
    | h :: r => (c :: h) :: r
    | [] => [[c]]
theorem splL_ne : ∀ l : List Nat, splL l ≠ []
  | [] => by intro z; cases z
  | c :: t => by
    unfold splL
    split
    · intro z; cases z
    · split <;> intro z <;> cases z
theorem splL_join : ∀ l : List Nat, TL.joinL [32] (splL l) = l
  | [] => rfl
  | c :: t => by
    have ih := splL_join t
    have ne := splL_ne t
    unfold splL
    by_cases h : c = 32
    · rw [if_pos h]
      cases e : splL t with
      | nil => exact absurd e ne
      | cons x r =>
        rw [e] at ih
        show [] ++ ([32] ++ TL.joinL [32] (x :: r)) = c :: t
        rw [ih, h]
        rfl
    · rw [if_neg h]
      cases e : splL t with
      | nil => exact absurd e ne
      | cons x r =>
        rw [e] at ih
        cases r with
        | nil =>
          have ih : x = t := ih
          show c :: x = c :: t
          rw [ih]
        | cons y s =>
          have ih : x ++ ([32] ++ TL.joinL [32] (y :: s)) = t := ih
          show (c :: x) ++ ([32] ++ TL.joinL [32] (y :: s)) = c :: t
          rw [List.cons_append, ih]
theorem splL_no : ∀ l : List Nat, ∀ w ∈ splL l, 32 ∉ w
  | [], w, h => by
    rw [List.mem_singleton.mp h]
    simp
  | c :: t, w, h => by
    have ih := splL_no t
    unfold splL at h
    by_cases hc : c = 32
    · rw [if_pos hc] at h
      rcases List.mem_cons.mp h with e | e
      · rw [e]
        simp
      · exact ih w e
    · rw [if_neg hc] at h
      cases e : splL t with
      | nil =>
        rw [e] at h
        rw [List.mem_singleton.mp h]
        simp
        omega
      | cons x r =>
        rw [e] at h ih
        rcases List.mem_cons.mp h with z | z
        · rw [z]
          intro m
          rcases List.mem_cons.mp m with q | q
          · exact hc q.symm
          · exact ih x (List.mem_cons_self ..) q
        · exact ih w (List.mem_cons_of_mem _ z)
def mkS (l : List Nat) : Str := ⟨l.toArray⟩
def wordsOf (z : Str) : List Str := (splL (TL.tl z)).map mkS
theorem wordsOf_ne (z : Str) : wordsOf z ≠ [] := fun e => splL_ne _ (List.map_eq_nil_iff.mp e)
theorem wordsOf_no (z : Str) : ∀ w ∈ wordsOf z, 32 ∉ TL.tl w := fun w h => by
  obtain ⟨l, hl, rfl⟩ := List.mem_map.mp h
  exact splL_no _ l hl
theorem split_any (z : Str) : Txt.split z " " = wordsOf z := by
  have e : Txt.join " " (wordsOf z) = z := by
    refine TL.ext_tl ?_
    rw [TL.join_eq, TL.tl_join, tl_sp]
    unfold wordsOf
    rw [List.map_map]
    have : (TL.tl ∘ mkS) = id := by
      funext l
      rfl
    rw [this, List.map_id, splL_join]
  have h := split_words (wordsOf_ne z) (wordsOf_no z)
  rw [e] at h
  exact h
theorem wordsOf_len (z : Str) : (wordsOf z).length ≤ z.length + 1 ∧ ∀ w ∈ wordsOf z, w.length ≤ z.length := by
  have gen : ∀ l : List Nat, (splL l).length ≤ l.length + 1 ∧ ∀ w ∈ splL l, w.length ≤ l.length := by
    intro l
    induction l with
    | nil => exact ⟨Nat.le_refl _, fun w h => by rw [List.mem_singleton.mp h]; exact Nat.le_refl _⟩
    | cons c t ih =>
      obtain ⟨i1, i2⟩ := ih
      have ne := splL_ne t
      unfold splL
      by_cases hc : c = 32
      · rw [if_pos hc]
        refine ⟨by rw [List.length_cons, List.length_cons]; omega, fun w h => ?_⟩
        rcases List.mem_cons.mp h with e | e
        · rw [e]
          exact Nat.zero_le _
        · have := i2 w e
          rw [List.length_cons]
          omega
      · rw [if_neg hc]
        cases e : splL t with
        | nil => exact absurd e ne
        | cons x r =>
          rw [e] at i1 i2
          rw [List.length_cons] at i1
          refine ⟨by rw [List.length_cons, List.length_cons]; omega, fun w h => ?_⟩
          rcases List.mem_cons.mp h with z | z
          · rw [z, List.length_cons, List.length_cons]
            have := i2 x (List.mem_cons_self ..)
            omega
          · have := i2 w (List.mem_cons_of_mem _ z)
            rw [List.length_cons]
            omega
  obtain ⟨g1, g2⟩ := gen (TL.tl z)
  refine ⟨?_, fun w h => ?_⟩
  · unfold wordsOf
    rw [List.length_map, TL.len_tl]
    exact g1
  · obtain ⟨l, hl, rfl⟩ := List.mem_map.mp h
    rw [TL.len_tl, TL.len_tl]
    exact g2 l hl
theorem join_words (z : Str) : Txt.join " " (wordsOf z) = z := by
  rw [← split_any, TL.join_eq]
  exact StrLaws.join_split z " "
theorem words_join {ws : List Str} (ne : ws ≠ []) (h : ∀ w ∈ ws, 32 ∉ TL.tl w) : wordsOf (Txt.join " " ws) = ws := by
  rw [← split_any]
  exact split_words ne h
/-! ### no word is longer than M -/
def frL (M : Nat) : Nat → List Nat → Bool
  | k, [] => decide (k ≤ M)
  | k, c :: t => if c = 32 then decide (k ≤ M) && frL M 0 t else frL M (k + 1) t
theorem fr_le {M : Nat} : ∀ (l : List Nat) (k : Nat), frL M k l = true → k ≤ M
  | [], k, h => of_decide_eq_true h
  | c :: t, k, h => by
    unfold frL at h
    by_cases hc : c = 32
    · rw [if_pos hc, Bool.and_eq_true] at h
      exact of_decide_eq_true h.1
    · rw [if_neg hc] at h
      have := fr_le t _ h
      omega
theorem fr_mono {M N : Nat} : ∀ (l : List Nat) (k j : Nat), frL M k l = true → M ≤ N → j ≤ k + (N - M) → frL N j l = true
  | [], k, j, h, hm, hj => decide_eq_true (by have := of_decide_eq_true h; omega)
  | c :: t, k, j, h, hm, hj => by
    unfold frL at h ⊢
    by_cases hc : c = 32
    · rw [if_pos hc, Bool.and_eq_true] at h ⊢
      exact ⟨decide_eq_true (by have := of_decide_eq_true h.1; omega), fr_mono t 0 0 h.2 hm (Nat.zero_le _)⟩
    · rw [if_neg hc] at h ⊢
      exact fr_mono t _ _ h hm (by omega)
theorem fr_pre {M : Nat} : ∀ (a b : List Nat) (k : Nat), frL M k (a ++ b) = true → frL M k a = true
  | [], b, k, h => decide_eq_true (fr_le b k h)
  | c :: t, b, k, h => by
    have h : frL M k (c :: (t ++ b)) = true := h
    unfold frL at h ⊢
    by_cases hc : c = 32
    · rw [if_pos hc, Bool.and_eq_true] at h ⊢
      exact ⟨h.1, fr_pre t b 0 h.2⟩
    · rw [if_neg hc] at h ⊢
      exact fr_pre t b _ h
theorem fr_suf {M : Nat} : ∀ (a b : List Nat) (k : Nat), frL M k (a ++ b) = true → frL M 0 b = true
  | [], b, k, h => fr_mono b k 0 h (Nat.le_refl _) (Nat.zero_le _)
  | c :: t, b, k, h => by
    have h : frL M k (c :: (t ++ b)) = true := h
    unfold frL at h
    by_cases hc : c = 32
    · rw [if_pos hc, Bool.and_eq_true] at h
      exact fr_suf t b 0 h.2
    · rw [if_neg hc] at h
      exact fr_suf t b _ h
theorem fr_app {M N : Nat} {b : List Nat} (hb : frL N 0 b = true) : ∀ (a : List Nat) (k : Nat), frL M k a = true → frL (M + N) k (a ++ b) = true
  | [], k, h => fr_mono b 0 k hb (by omega) (by have := of_decide_eq_true h; omega)
  | c :: t, k, h => by
    show frL (M + N) k (c :: (t ++ b)) = true
    unfold frL at h ⊢
    by_cases hc : c = 32
    · rw [if_pos hc, Bool.and_eq_true] at h ⊢
      exact ⟨decide_eq_true (by have := of_decide_eq_true h.1; omega), fr_app hb t 0 h.2⟩
    · rw [if_neg hc] at h ⊢
      exact fr_app hb t _ h
theorem fr_one (c : Nat) : frL 1 0 [c] = true := by
  unfold frL
  by_cases hc : c = 32
  · rw [if_pos hc]; rfl
  · rw [if_neg hc]; rfl
theorem fr_words {M : Nat} : ∀ (l : List Nat) (k : Nat), frL M k l = true → ∃ h r, splL l = h :: r ∧ k + h.length ≤ M ∧ ∀ w ∈ r, w.length ≤ M
  | [], k, h => ⟨[], [], rfl, of_decide_eq_true h, fun w hw => by cases hw⟩
  | c :: t, k, h => by
    unfold frL at h
    unfold splL
    by_cases hc : c = 32
    · rw [if_pos hc, Bool.and_eq_true] at h
      rw [if_pos hc]
      obtain ⟨x, r, e, h1, h2⟩ := fr_words t 0 h.2
      refine ⟨[], splL t, rfl, of_decide_eq_true h.1, fun w hw => ?_⟩
      rw [e] at hw
      rcases List.mem_cons.mp hw with z | z
      · rw [z]; omega
      · exact h2 w z
    · rw [if_neg hc] at h
      rw [if_neg hc]
      obtain ⟨x, r, e, h1, h2⟩ := fr_words t _ h
      rw [e]
      exact ⟨c :: x, r, rfl, by rw [List.length_cons]; omega, h2⟩
/-- no word of z is longer than M -/
def FrS (M : Nat) (z : Str) : Prop := frL M 0 (TL.tl z) = true
theorem FrS.word {M : Nat} {z : Str} (h : FrS M z) : ∀ w ∈ wordsOf z, w.length ≤ M := fun w hw => by
  obtain ⟨l, hl, rfl⟩ := List.mem_map.mp hw
  obtain ⟨x, r, e, h1, h2⟩ := fr_words _ _ h
  rw [e] at hl
  rw [TL.len_tl]
  show l.length ≤ M
  rcases List.mem_cons.mp hl with z | z
  · rw [z]; omega
  · exact h2 l z
theorem FrS.mono {M N : Nat} {z : Str} (h : FrS M z) (l : M ≤ N) : FrS N z := fr_mono _ _ _ h l (Nat.zero_le _)
theorem fr_put {M : Nat} {r : List Nat} (hr : frL M 0 r = true) : ∀ (w : List Nat) (k : Nat), k + w.length ≤ M → frL M k (w ++ 32 :: r) = true
  | [], k, h => by
    show frL M k (32 :: r) = true
    unfold frL
    rw [if_pos rfl, hr, decide_eq_true (show k ≤ M from h)]
    rfl
  | c :: t, k, h => by
    rw [List.length_cons] at h
    show frL M k (c :: (t ++ 32 :: r)) = true
    unfold frL
    by_cases hc : c = 32
    · rw [if_pos hc, decide_eq_true (show k ≤ M by omega), fr_put hr t 0 (by omega)]
      rfl
    · rw [if_neg hc]
      exact fr_put hr t _ (by omega)
theorem fr_last {M : Nat} : ∀ (w : List Nat) (k : Nat), k + w.length ≤ M → frL M k w = true
  | [], k, h => decide_eq_true h
  | c :: t, k, h => by
    rw [List.length_cons] at h
    unfold frL
    by_cases hc : c = 32
    · rw [if_pos hc, decide_eq_true (show k ≤ M by omega), fr_last t 0 (by omega)]
      rfl
    · rw [if_neg hc]
      exact fr_last t _ (by omega)
theorem fr_join {M : Nat} : ∀ {ws : List (List Nat)}, (∀ w ∈ ws, w.length ≤ M) → frL M 0 (TL.joinL [32] ws) = true
  | [], _ => rfl
  | [w], h => fr_last w 0 (by have := h w (List.mem_cons_self ..); omega)
  | w :: x :: r, h => by
    show frL M 0 (w ++ ([32] ++ TL.joinL [32] (x :: r))) = true
    exact fr_put (fr_join fun y hy => h y (List.mem_cons_of_mem _ hy)) w 0 (by have := h w (List.mem_cons_self ..); omega)
theorem FrS.join {M : Nat} {ws : List Str} (h : ∀ w ∈ ws, w.length ≤ M) : FrS M (Txt.join " " ws) := by
  unfold FrS
  rw [TL.join_eq, TL.tl_join, tl_sp]
  refine fr_join fun w hw => ?_
  obtain ⟨x, hx, rfl⟩ := List.mem_map.mp hw
  rw [← TL.len_tl]
  exact h x hx
/-! ### one word -/
def digC (c : Nat) : Bool := decide (48 ≤ c ∧ c ≤ 57)
def digB (z : Str) : Bool := !(TL.tl z).isEmpty && (TL.tl z).all digC
def valI (z : Str) : Int := ((NumText.digitsVal (TL.tl z) : Nat) : Int)
def prt (z : Str) : List Str := Txt.split z "*"
/-- what a word of a run says -/
def runO (z : Str) : Option Run := match prt z with
  | [a] => if kindB a then some (a, 1) else none
  | [a, b] => if kindB a && digB b then some (a, valI b) else none
  | _ => none
def exO (z : Str) : Bool := match prt z with
  | [_, b] => !decide ((TL.tl b).head? = some 48) && !decide (b = "1")
  | _ => true
theorem empty_eq : (Str.empty : Str) = "" := by decide +kernel
theorem prt_free (z : Str) : ∀ p ∈ prt z, 42 ∉ TL.tl p := StrLaws.split_free z 42
theorem prt_join (z : Str) : Str.join "*" (prt z) = z := StrLaws.join_split z "*"
theorem prt_ne (z : Str) : prt z ≠ [] := fun e => by
  have h := prt_join z
  rw [e] at h
  have h : ("" : Str) = z := by rw [← h]; decide +kernel
  subst h
  exact absurd e (by decide +kernel)
theorem part_one {z a : Str} (e : prt z = [a]) : z = a ∧ Txt.partition z "*" = (a, ("" : Str), ("" : Str)) := by
  have h := prt_join z
  rw [e] at h
  have h : a = z := h
  subst h
  have f := prt_free a a (by rw [e]; exact List.mem_singleton.mpr rfl)
  exact ⟨rfl, by rw [TL.partition_none tl_star f, empty_eq]⟩
theorem part_two {z a b : Str} (e : prt z = [a, b]) : z = a ++ "*" ++ b ∧ Txt.partition z "*" = (a, ("*" : Str), b) := by
  have h := prt_join z
  rw [e] at h
  have h : a ++ "*" ++ b = z := h
  have f := prt_free z a (by rw [e]; exact List.mem_cons_self ..)
  rw [← h]
  exact ⟨rfl, TL.partition_app tl_star f⟩
theorem part_more {z a b c : Str} {r : List Str} (e : prt z = a :: b :: c :: r) : ∃ d : Str, Txt.partition z "*" = (a, ("*" : Str), d) ∧ digB d = false := by
  have h := prt_join z
  rw [e] at h
  have h : a ++ "*" ++ (b ++ "*" ++ Str.join "*" (c :: r)) = z := h
  have f := prt_free z a (by rw [e]; exact List.mem_cons_self ..)
  rw [← h]
  refine ⟨_, TL.partition_app tl_star f, ?_⟩
  unfold digB
  have m : (42 : Nat) ∈ TL.tl (b ++ "*" ++ Str.join "*" (c :: r)) := by
    rw [TL.tl_append, TL.tl_append, tl_star]
    simp
  cases ha : (TL.tl (b ++ "*" ++ Str.join "*" (c :: r))).all digC with
  | false => rw [Bool.and_false]
  | true =>
    have := List.all_eq_true.mp ha 42 m
    exact absurd this (by decide)
/-- the three parts of a word, as a text that is cut at its first star -/
theorem run_parts (z : Str) : ∃ k s d : Str, Txt.partition z "*" = (k, s, d) ∧ (runO z).isSome = (kindB k && (decide (s = "") || digB d)) ∧ (∀ r, runO z = some r → (s = "" ∧ r = (k, 1) ∧ exO z = true ∧ z = k) ∨ (s = "*" ∧ digB d = true ∧ r = (k, valI d) ∧ z = k ++ "*" ++ d ∧ exO z = (!decide ((TL.tl d).head? = some 48) && !decide (d = "1")))) := by
  have ne := prt_ne z
  unfold runO exO
  cases e : prt z with
  | nil => exact absurd e ne
  | cons a t =>
    cases t with
    | nil =>
      obtain ⟨e1, e2⟩ := part_one e
      refine ⟨a, "", "", e2, ?_, fun r h => ?_⟩
      · show (if kindB a = true then some ((a, 1) : Run) else none).isSome = _
        cases kindB a <;> rfl
      · have h : (if kindB a = true then some ((a, 1) : Run) else none) = some r := h
        split at h
        · exact .inl ⟨rfl, (Option.some.inj h).symm, rfl, e1⟩
        · cases h
    | cons b t =>
      cases t with
      | nil =>
        obtain ⟨e1, e2⟩ := part_two e
        refine ⟨a, "*", b, e2, ?_, fun r h => ?_⟩
        · show (if (kindB a && digB b) = true then some ((a, valI b) : Run) else none).isSome = _
          rw [show decide (("*" : Str) = "") = false by decide +kernel]
          cases kindB a <;> cases digB b <;> rfl
        · have h : (if (kindB a && digB b) = true then some ((a, valI b) : Run) else none) = some r := h
          split at h
          · rename_i c
            rw [Bool.and_eq_true] at c
            exact .inr ⟨rfl, c.2, (Option.some.inj h).symm, e1, rfl⟩
          · cases h
      | cons c r =>
        obtain ⟨d, e2, e3⟩ := part_more e
        refine ⟨a, "*", d, e2, ?_, fun r h => by cases h⟩
        show (none : Option Run).isSome = _
        rw [show decide (("*" : Str) = "") = false by decide +kernel, e3]
        cases kindB a <;> rfl
/-! ### numbers -/
def nS (n : Int) : Str := Str.ofString (toString n)
theorem tl_nS (k : Nat) : TL.tl (nS (k : Int)) = TL.numL k := TL.tl_num k
theorem dig_all {z : Str} (h : digB z = true) : NumText.AllDigits (TL.tl z) ∧ TL.tl z ≠ [] := by
  unfold digB at h
  rw [Bool.and_eq_true] at h
  refine ⟨fun c hc => of_decide_eq_true (List.all_eq_true.mp h.2 c hc), fun e => ?_⟩
  rw [e] at h
  exact absurd h.1 (by decide)
theorem val_back {z : Str} (h : digB z = true) (n : (TL.tl z).head? ≠ some 48) : nS (valI z) = z := by
  obtain ⟨ha, hne⟩ := dig_all h
  refine TL.ext_tl ?_
  unfold valI
  rw [tl_nS]
  unfold TL.numL
  obtain ⟨c, t, e⟩ := List.exists_cons_of_ne_nil hne
  have hc := ha c (by rw [e]; exact List.mem_cons_self ..)
  have c48 : c ≠ 48 := fun x => n (by rw [e, x]; rfl)
  rw [NumText.toDigits_digitsVal ((TL.tl z).length - 1) (TL.tl z) (by rw [e]; rfl) ha (.inr ⟨c, t, e, by omega⟩), List.map_map]
  have : ∀ l : List Nat, NumText.AllDigits l → l.map (Char.toNat ∘ Char.ofNat) = l := fun l => by
    induction l with
    | nil => intro _; rfl
    | cons x t ih =>
      intro hl
      have hx := hl x (List.mem_cons_self ..)
      rw [List.map_cons, ih fun y hy => hl y (List.mem_cons_of_mem _ hy)]
      congr 1
      exact (show ∀ x, x < 58 → (Char.ofNat x).toNat = x by decide) x (by omega)
  exact this _ ha
theorem num_head {k : Nat} (h : 1 ≤ k) : ∃ c t, TL.numL k = c :: t ∧ c ≠ 48 := by
  induction k using Nat.strongRecOn with
  | ind k ih =>
    by_cases c : k < 10
    · exact ⟨48 + k, [], TL.numL_lt c, by omega⟩
    · obtain ⟨d, t, e, nd⟩ := ih (k / 10) (by omega) (by omega)
      exact ⟨d, t ++ [48 + k % 10], by rw [TL.numL_step (by omega), e]; rfl, nd⟩
theorem val_one {z : Str} (h : valI z = 1) (n : nS (valI z) = z) : z = "1" := by
  rw [h] at n
  rw [← n]
  decide +kernel
theorem val_nn (z : Str) : 0 ≤ valI z := by unfold valI; omega
/-- the word of a run -/
def wrd (r : Run) : Str := if r.2 = 1 then r.1 else r.1 ++ "*" ++ nS r.2
theorem app_len (a b : Str) : (a ++ b).length = a.length + b.length := by
  rw [TL.len_tl, TL.tl_append, List.length_append, ← TL.len_tl, ← TL.len_tl]
/-- a word is plain if it says itself -/
theorem plain_iff {z : Str} {r : Run} (h : runO z = some r) : (decide (z = wrd r) && decide (0 < r.2)) = exO z := by
  obtain ⟨k, s, d, _, _, hh⟩ := run_parts z
  rcases hh r h with ⟨_, rfl, ex, e⟩ | ⟨_, dg, rfl, e, ex⟩
  · rw [ex, decide_eq_true (show z = wrd (k, 1) by rw [e]; exact (if_pos rfl).symm)]
    rfl
  · rw [ex]
    have star1 : ∀ x : Str, k ++ "*" ++ x ≠ k := fun x hx => by
      have := congrArg Str.length hx
      rw [app_len, app_len, show ("*" : Str).length = 1 by decide +kernel] at this
      omega
    have inj : ∀ x y : Str, k ++ "*" ++ x = k ++ "*" ++ y → x = y := fun x y hxy => TL.ext_tl (by
      have := congrArg TL.tl hxy
      rw [TL.tl_append, TL.tl_append (k ++ "*") y] at this
      exact List.append_cancel_left this)
    by_cases h48 : (TL.tl d).head? = some 48
    · rw [decide_eq_true h48]
      show _ = false
      by_cases v1 : valI d = 1
      · have : wrd (k, valI d) = k := if_pos v1
        rw [this, e, decide_eq_false (star1 d)]
        rfl
      · by_cases v0 : 0 < valI d
        · have : wrd (k, valI d) = k ++ "*" ++ nS (valI d) := if_neg v1
          rw [this, e, decide_eq_false (fun x => ?_)]
          · rfl
          have x := inj _ _ x
          obtain ⟨c, t, ec, nc⟩ := num_head (k := NumText.digitsVal (TL.tl d)) (by unfold valI at v0; omega)
          have := congrArg TL.tl x
          unfold valI at this
          rw [tl_nS, ec] at this
          rw [this] at h48
          exact nc (Option.some.inj h48)
        · rw [decide_eq_false (show ¬ 0 < ((k, valI d) : Run).2 from v0), Bool.and_false]
    · have vb := val_back dg h48
      rw [decide_eq_false h48]
      by_cases d1 : d = "1"
      · have v1 : valI d = 1 := by rw [d1]; decide +kernel
        rw [show wrd (k, valI d) = k from if_pos v1, e, decide_eq_false (star1 d), decide_eq_true d1]
        rfl
      · have v1 : valI d ≠ 1 := fun v => d1 (val_one v vb)
        have v0 : 0 < valI d := by
          obtain ⟨ha, hne⟩ := dig_all dg
          obtain ⟨c, t, ec⟩ := List.exists_cons_of_ne_nil hne
          have hc := ha c (by rw [ec]; exact List.mem_cons_self ..)
          have := NumText.digitsVal_pos (c := c) (cs := t) (by
            have : c ≠ 48 := fun x => h48 (by rw [ec, x]; rfl)
            omega)
          unfold valI
          rw [ec]
          omega
        rw [show wrd (k, valI d) = k ++ "*" ++ nS (valI d) from if_neg v1, vb, decide_eq_true e, decide_eq_true (show 0 < ((k, valI d) : Run).2 from v0), decide_eq_false d1]
        rfl
theorem ex_pos {z : Str} {r : Run} (h : runO z = some r) (x : exO z = true) : 1 ≤ r.2 := by
  have := plain_iff h
  rw [x, Bool.and_eq_true] at this
  have := of_decide_eq_true this.2
  omega
theorem run_kind {z : Str} {r : Run} (h : runO z = some r) : kindB r.1 = true ∧ 0 ≤ r.2 ∧ r.1.length ≤ z.length := by
  obtain ⟨k, s, d, _, hs, hh⟩ := run_parts z
  rw [h] at hs
  have kb : kindB k = true := by
    cases c : kindB k with
    | true => rfl
    | false => rw [c] at hs; cases hs
  rcases hh r h with ⟨_, rfl, ex, e⟩ | ⟨_, dg, rfl, e, ex⟩
  · exact ⟨kb, (show (0 : Int) ≤ 1 by decide), by rw [e]; exact Nat.le_refl _⟩
  · refine ⟨kb, val_nn d, ?_⟩
    rw [e, app_len, app_len]
    show k.length ≤ _
    omega
end UP

set_option Elab.async false
set_option linter.all false
set_option maxRecDepth 100000
set_option maxHeartbeats 4000000
set_option pp.maxSteps 400
namespace UP
open PySem PySem.Spec PyProof.Rows L2
theorem tl_empty {z : Str} (h : TL.tl z = []) : z = "" := TL.ext_tl (by rw [h]; decide +kernel)
theorem c48 : (("0" : Str).cps.getD 0 0 : Nat) = 48 := by decide +kernel
theorem for_gen {J : It} {n : Nat} {H : Hp} {g : TG} {tb : TS} {D : Ends} {σ : L2.St} (Pv : Nat → L2.St → Hp → Prop) (h0 : Pv 0 σ H) (hg : ∀ i σ H, i < n → Pv i σ H → J.go i H) (hst : ∀ σ H, Pv n σ H → J.stop n H)
    (hs : ∀ i x σ H H', i < n → Pv i σ H → J.yld i H x H' → g x σ H' fun σ2 H2 => tb { D with nx := Pv (i + 1), ct := Pv (i + 1), bk := D.nx } σ2 H2) (hd : ∀ σ H, Pv n σ H → D.nx σ H) :
    ∃ W : Nat → Nat → L2.St → Hp → Prop, (∃ m, W 0 m σ H) ∧ ∀ i m σ H, W i m σ H →
      (J.stop i H ∧ D.nx σ H) ∨ (J.go i H ∧ ∃ N : L2.St → Hp → Prop, (∀ σ' H', N σ' H' → ∃ m', m' < m ∧ W (i + 1) m' σ' H') ∧ ∀ x H', J.yld i H x H' → g x σ H' fun σ2 H2 => tb { D with nx := N, ct := N, bk := D.nx } σ2 H2) := by
  refine ⟨fun i m σ H => m = n - i ∧ i ≤ n ∧ Pv i σ H, ⟨n, by omega, Nat.zero_le _, h0⟩, ?_⟩
  rintro i m σ H ⟨rfl, hi, p⟩
  by_cases hlt : i < n
  · exact Or.inr ⟨hg i σ H hlt p, Pv (i + 1), fun σ' H' p' => ⟨n - (i + 1), by omega, rfl, hlt, p'⟩, fun x H' y => hs i x σ H H' hlt p y⟩
  · have e : i = n := by omega
    subst e
    exact Or.inl ⟨hst σ H p, hd σ H p⟩
structure ActT (K : PySem.W.Frag) (w : World) (mg : Str → Option Value) (aA : Addr) : Prop where
  a_ACTIONS : mg "ACTIONS" = some (.ref aA)
  a1 : KDct K w aA "+" (.str "waits")
  a2 : KDct K w aA "-" (.str "leaves")
theorem ActT.ac_ {K : PySem.W.Frag} {w : World} {mg : Str → Option Value} {aA : Addr} (T : ActT K w mg aA) (b : Bool) : KDct K w aA (sgnS b) (.str (actS b)) := by
  cases b
  · exact T.a2
  · exact T.a1
/-- what a word of an entry says -/
def entO (z : Str) : Option En := match (TL.tl z).getLast? with
  | none => none
  | some c => if c = 43 ∨ c = 45 then (if mkS (TL.tl z).dropLast = "?" then some (none, decide (c = 43)) else if kindB (mkS (TL.tl z).dropLast) then some (some (mkS (TL.tl z).dropLast), decide (c = 43)) else none) else none
theorem ent_cases (z : Str) : (z = "" ∧ entO z = none) ∨ ∃ (a : Str) (c : Nat), TL.tl z = TL.tl a ++ [c] ∧ a.length < z.length ∧ entO z = if c = 43 ∨ c = 45 then (if a = "?" then some (none, decide (c = 43)) else if kindB a then some (some a, decide (c = 43)) else none) else none := by
  by_cases h : TL.tl z = []
  · exact .inl ⟨tl_empty h, by unfold entO; rw [h]; rfl⟩
  · refine .inr ⟨mkS (TL.tl z).dropLast, (TL.tl z).getLast h, (List.dropLast_concat_getLast h).symm, ?_, ?_⟩
    · rw [TL.len_tl, TL.len_tl]
      show (TL.tl z).dropLast.length < _
      rw [List.length_dropLast]
      have := List.length_pos_iff.mpr h
      omega
    · unfold entO
      rw [List.getLast?_eq_some_getLast h]
theorem one_in (c : Nat) : inV (.str ⟨#[c]⟩) [.str "+", .str "-"] = decide (c = 43 ∨ c = 45) := by
  have h1 : ((⟨#[c]⟩ : Str) = "+") ↔ c = 43 := ⟨fun e => by have := congrArg TL.tl e; rw [show TL.tl ("+" : Str) = [43] by decide +kernel] at this; exact List.head_eq_of_cons_eq this, fun e => by rw [e]; decide +kernel⟩
  have h2 : ((⟨#[c]⟩ : Str) = "-") ↔ c = 45 := ⟨fun e => by have := congrArg TL.tl e; rw [show TL.tl ("-" : Str) = [45] by decide +kernel] at this; exact List.head_eq_of_cons_eq this, fun e => by rw [e]; decide +kernel⟩
  unfold inV
  by_cases a : c = 43
  · rw [h1.mpr a, decide_eq_true (Or.inl a)]
    decide +kernel
  · by_cases b : c = 45
    · rw [h2.mpr b, decide_eq_true (Or.inr b)]
      decide +kernel
    · rw [decide_eq_false (fun z => z.elim a b)]
      have n1 : ¬ (⟨#[c]⟩ : Str) = "+" := fun e => a (h1.mp e)
      have n2 : ¬ (⟨#[c]⟩ : Str) = "-" := fun e => b (h2.mp e)
      simp [n1, n2]
      exact ⟨beq_eq_false_iff_ne.mpr (fun e => n1 e.symm), beq_eq_false_iff_ne.mpr (fun e => n2 e.symm)⟩
section
variable {P : Program} {w : World} {K : PySem.W.Frag} {mg : Str → Option Value} {base : Heap} {aA : Addr}
/-! is_digits: slots 0:word 1:letter -/
abbrev s_is_digits : Stmt := topS 38
theorem sc_is_digits : FnScope ["word", "letter"] ["word"] (defScope s_is_digits) := ⟨rfl, rfl, rfl, by decide +kernel, rfl, by decide +kernel, by decide +kernel⟩
def spD_is_digits : Sp := fun vs H Q _ => ∃ z : Str, vs = [.str z] ∧ z.length ≤ 4000 ∧ ∀ H', Same H H' → Q (.bl (digB z)) H'
theorem okD_is_digits (D : Df K mg "is_digits" s_is_digits) (T : Tx mg) : Has P w K mg base 1 "is_digits" ["word"] spD_is_digits := by
  refine has_of D sc_is_digits (fun _ _ _ _ _ _ us hl => match us, hl with | [_], _ => rfl) (fun vs H Q E h => ?_) (fun f cdv A outer s H vs Q E hr h => ?_)
  · obtain ⟨n, rfl, _⟩ := h
    rfl
  · obtain ⟨z, rfl, lz, q⟩ := h
    refine ⟨_, (pss_one (ps_ret (pe_and (pe_cmpR op_ne (pv 0) pe_str (nomark _)) (pe_one (pe_callB (cr_all rfl) (by rfl) T.n_all (by decide +kernel) (pa_cons (pe_lc (own := [("letter", 1)]) rfl sc_is_digits.nd (pi_str (pv 0)) (blkOk_by (N := ["word", "letter"]) (sc := defScope s_is_digits) (by decide +kernel)) (fun _ _ _ _ _ => (pg_name (i := 1) sc_is_digits.nd rfl (by first | exact Or.inl rfl | exact Or.inr rfl))) (fun _ _ _ _ _ => pts_nil) (fun _ _ _ _ _ => (pe_chain op_le_str op_le_str pe_str (pv 1) pe_str))) pa_nil)))))), ?_⟩
    cases et : TL.tl z with
    | nil =>
      have ez := tl_empty et
      subst ez
      refine ⟨_, rfl, rfl, false, congrArg V.bl (show (!decide (V.str "" = V.str "")) = false by rw [decide_eq_true rfl]; rfl), iteF ?_⟩
      exact q _ (Same.refl _)
    | cons c0 t0 =>
      have nez : z ≠ "" := fun e => by
        rw [e] at et
        have e0 : TL.tl ("" : Str) = [] := by decide +kernel
        rw [e0] at et
        cases et
      have eq1 : digB z = ((TL.tl z).map digC).all id := by
        unfold digB
        rw [et, all_map]
        rfl
      refine ⟨_, rfl, rfl, true, congrArg V.bl (show (!decide (V.str z = V.str "")) = true by rw [decide_eq_false (fun e => nez (V.str.inj e))]; rfl), iteT ?_⟩
      refine ⟨_, rfl, z, rfl, fun L nL => lc_gen (n := z.cps.size) (fun i H' => Same H H' ∧ H' L = some (.lst ((((TL.tl z).take i).map digC).map V.bl))) ⟨same_upd nL, upd_same⟩ (fun i H' hi _ => hi) (fun H' _ => Nat.le_refl _) (fun i x H1 H2 hi p y => ?_) (fun H' p => ?_)⟩
      · obtain ⟨rfl, c, ec, rfl⟩ := y
        obtain ⟨sm, hL⟩ := p
        have ec' : (TL.tl z)[i]? = some c := by
          show z.cps.toList[i]? = some c
          rw [Array.getElem?_toList]
          exact ec
        have ea : ("0" : Str).cps.toList = [48] := by decide +kernel
        have ez : ("9" : Str).cps.toList = [57] := by decide +kernel
        have lim : ((((TL.tl z).take i).map digC).map V.bl).length < sizeLine := by
          simp only [List.length_map, List.length_take]
          exact small (by have : z.cps.size = z.length := rfl; omega)
        have put : ∀ b : Bool, b = digC c → Same H (upd H2 L (.lst (((((TL.tl z).take i).map digC).map V.bl) ++ [V.bl b]))) ∧ (upd H2 L (.lst (((((TL.tl z).take i).map digC).map V.bl) ++ [V.bl b]))) L = some (.lst ((((TL.tl z).take (i + 1)).map digC).map V.bl)) := by
          intro b hb
          refine ⟨same_grow nL sm, ?_⟩
          rw [upd_same, take_snoc ec', List.map_append, List.map_append, hb]
          rfl
        have t1 : (!decide (([c] : List Nat) < ("0" : Str).cps.toList)) = decide (48 ≤ c) := by rw [ea, lex1]
        have t2 : (!decide ((("9" : Str).cps.toList) < ([c] : List Nat))) = decide (c ≤ 57) := by rw [ez, lex1]
        refine ⟨rfl, yesT ⟨_, rfl, _, _, rfl, rfl, _, rfl, ?_⟩⟩
        by_cases b1 : 48 ≤ c
        · refine iteP (t1.trans (decide_eq_true b1)) ⟨_, _, rfl, rfl, _, hL, lim, put _ ?_⟩
          exact t2.trans (decide_eq_decide.mpr ⟨fun z => ⟨b1, z⟩, fun z => z.2⟩)
        · refine iteN (t1.trans (decide_eq_false b1)) ⟨_, hL, lim, put _ ?_⟩
          exact (decide_eq_false (p := 48 ≤ c ∧ c ≤ 57) (fun z => b1 z.1)).symm
      · refine ⟨L, _, rfl, .of p.2, ?_⟩
        have e : ((TL.tl z).take z.cps.size).map digC = (TL.tl z).map digC := by
          rw [List.take_of_length_le (by show z.cps.toList.length ≤ _; rw [Array.length_toList]; exact Nat.le_refl _)]
        rw [e, ← eq1]
        exact q H' p.1
/-! number_in: slots 0:digits 1:number 2:digit -/
abbrev s_number_in : Stmt := topS 39
theorem sc_number_in : FnScope ["digits", "number", "digit"] ["digits"] (defScope s_number_in) := ⟨rfl, rfl, rfl, by decide +kernel, rfl, by decide +kernel, by decide +kernel⟩
def sp_number_in : Sp := fun vs H Q _ => ∃ z : Str, vs = [.str z] ∧ digB z = true ∧ z.length ≤ 600 ∧ Q (.int (valI z)) H
theorem ok_number_in (D : Df K mg "number_in" s_number_in) (T : Tx mg) : Has P w K mg base 1 "number_in" ["digits"] sp_number_in := by
  refine has_of D sc_number_in (fun _ _ _ _ _ _ us hl => match us, hl with | [_], _ => rfl) (fun vs H Q E h => ?_) (fun f cdv A outer s H vs Q E hr h => ?_)
  · obtain ⟨n, rfl, _⟩ := h
    rfl
  · obtain ⟨z, rfl, dg, l6, q⟩ := h
    have hd := (dig_all dg).1
    refine ⟨_, (pss_cons (ps_set (i := 1) sc_number_in.nd rfl (by first | exact Or.inl rfl | exact Or.inr rfl) pe_int)
    (pss_cons (ps_for PassesOwn.never rfl (pi_str (pv 0)) (pg_name (i := 2) sc_number_in.nd rfl (by first | exact Or.inl rfl | exact Or.inr rfl))
      (pss_one (ps_set (i := 1) sc_number_in.nd rfl (by first | exact Or.inl rfl | exact Or.inr rfl) (pe_op op_sub (pe_op op_add (pe_op op_mulW pe_int (pv 1)) (pe_callB call_ord (by rfl) T.n_ord (by decide +kernel) (pa_cons (pv 2) pa_nil))) (pe_callB call_ord (by rfl) T.n_ord (by decide +kernel) (pa_cons pe_str pa_nil))))))
    (pss_one (ps_ret (pv 1))))), ?_⟩
    refine ⟨_, rfl, z, rfl, for_gen (n := z.cps.size) (fun i σ H' => ∃ (y : Option V) (k : Nat), σ = [some (.str z), some (.int k), y] ∧ H' = H ∧ k = NumText.digitsVal ((TL.tl z).take i) ∧ k < 10 ^ i) ⟨none, 0, rfl, rfl, rfl, by decide⟩ (fun i σ H' hi _ => hi) (fun σ H' _ => Nat.le_refl _) (fun i x σ H1 H2 hi p y => ?_) (fun σ H' p => ?_)⟩
    · obtain ⟨rfl, c, ec, rfl⟩ := y
      obtain ⟨y, k, rfl, rfl, ek, lk⟩ := p
      have hc : 48 ≤ c ∧ c ≤ 57 := hd c (by
        have := Array.mem_of_getElem? ec
        show c ∈ z.cps.toList
        simpa using this)
      have l40 : i ≤ 600 := by
        have : z.cps.size = z.length := rfl
        omega
      have bk : ((k : Nat) : Int).natAbs < 2 ^ 2000 := by
        have h1 : (10 : Nat) ^ i ≤ 10 ^ 600 := Nat.pow_le_pow_right (by decide) l40
        have h2 : (10 : Nat) ^ 600 < 2 ^ 2000 := by decide +kernel
        have : ((k : Nat) : Int).natAbs = k := Int.natAbs_natCast k
        omega
      refine ⟨_, rfl, _, _, rfl, rfl, wide_mul (a := 10) (b := 2000) (by decide) bk (by decide) (by decide) (by decide), ?_⟩
      refine ⟨_, rfl, ⟨#[c]⟩, rfl, rfl, _, _, rfl, rfl, "0", rfl, (by decide +kernel), _, _, rfl, rfl, ?_⟩
      have e0 : ((⟨#[c]⟩ : Str).cps.getD 0 0 : Nat) = c := rfl
      rw [c48, e0]
      have et : (TL.tl z)[i]? = some c := by
        show z.cps.toList[i]? = some c
        rw [Array.getElem?_toList]
        exact ec
      refine ⟨some (.str ⟨#[c]⟩), 10 * k + (c - 48), ?_, rfl, ?_, ?_⟩
      · have : (10 * (k : Int) + (c : Int) - ((48 : Nat) : Int)) = ((10 * k + (c - 48) : Nat) : Int) := by omega
        show [some (V.str z), some (V.int (10 * (k : Int) + (c : Int) - ((48 : Nat) : Int))), some (V.str ⟨#[c]⟩)] = _
        rw [this]
      · rw [take_snoc et, NumText.digitsVal_snoc, ← ek]
        omega
      · rw [Nat.pow_succ]
        omega
    · obtain ⟨y, k, rfl, rfl, ek, _⟩ := p
      have : z.cps.size = (TL.tl z).length := TL.len_tl z
      rw [this, List.take_length] at ek
      have : (k : Int) = valI z := by unfold valI; rw [ek]
      rw [← this] at q
      exact ⟨_, rfl, q⟩
/-! is_run_word: slots 0:word 1:kind 2:star 3:digits -/
abbrev s_is_run_word : Stmt := topS 40
theorem sc_is_run_word : FnScope ["word", "kind", "star", "digits"] ["word"] (defScope s_is_run_word) := ⟨rfl, rfl, rfl, by decide +kernel, rfl, by decide +kernel, by decide +kernel⟩
def sp_is_run_word : Sp := fun vs H Q _ => ∃ z : Str, vs = [.str z] ∧ z.length ≤ 4000 ∧ ∀ H', Same H H' → Q (.bl (runO z).isSome) H'
theorem part_len {z k s d : Str} (h : Txt.partition z "*" = (k, s, d)) : k.length ≤ z.length ∧ d.length ≤ z.length := by
  have ne := prt_ne z
  cases e : prt z with
  | nil => exact absurd e ne
  | cons a t =>
    cases t with
    | nil =>
      obtain ⟨e1, e2⟩ := part_one e
      rw [e2] at h
      cases h
      rw [e1]
      exact ⟨Nat.le_refl _, Nat.zero_le _⟩
    | cons b t =>
      have f := prt_free z a (by rw [e]; exact List.mem_cons_self ..)
      have hj := prt_join z
      rw [e] at hj
      have hj : a ++ "*" ++ Str.join "*" (b :: t) = z := hj
      have e2 := TL.partition_app tl_star (a := a) (b := Str.join "*" (b :: t)) f
      rw [hj, h] at e2
      cases e2
      rw [← hj, app_len, app_len]
      exact ⟨by omega, by omega⟩
theorem ok_is_run_word (D : Df K mg "is_run_word" s_is_run_word) (G_is_kind : Has P w K mg base 1 "is_kind" ["value"] sp_is_kind) (G_is_digits : Has P w K mg base 1 "is_digits" ["word"] spD_is_digits) : Has P w K mg base 2 "is_run_word" ["word"] sp_is_run_word := by
  refine has_of D sc_is_run_word (fun _ _ _ _ _ _ us hl => match us, hl with | [_], _ => rfl) (fun vs H Q E h => ?_) (fun f cdv A outer s H vs Q E hr h => ?_)
  · obtain ⟨_, rfl, _⟩ := h
    rfl
  · obtain ⟨z, rfl, lz, q⟩ := h
    obtain ⟨k, s', d, ep, es, _⟩ := run_parts z
    obtain ⟨lk, ld⟩ := part_len ep
    rw [es] at q
    refine ⟨_, (pss_cons (ps_asg (pe_partition (pv 0) pe_str) (pg_tup rfl (pgs_cons (pg_name (i := 1) sc_is_run_word.nd rfl (by first | exact Or.inl rfl | exact Or.inr rfl)) (pgs_cons (pg_name (i := 2) sc_is_run_word.nd rfl (by first | exact Or.inl rfl | exact Or.inr rfl)) (pgs_cons (pg_name (i := 3) sc_is_run_word.nd rfl (by first | exact Or.inl rfl | exact Or.inr rfl)) pgs_nil)))))
    (pss_one (ps_ret (pe_and (pe_callH G_is_kind (hr.mono (by omega)) (by rfl) (pa_cons (pv 1) pa_nil)) (pe_one (pe_or (pe_cmpR op_eq (pv 2) pe_str (nomark _)) (pe_one (pe_callH G_is_digits (hr.mono (by omega)) (by rfl) (pa_cons (pv 3) pa_nil))))))))), ?_⟩
    refine ⟨_, rfl, ⟨_, rfl⟩, _, _, rfl, rfl, (by decide +kernel), smallE (by omega), fun p np => ?_⟩
    rw [ep]
    have s1 := same_upd (o := .tup [.str k, .str s', .str d]) np
    refine ⟨p, _, rfl, .of upd_same, rfl, _, _, rfl, _, _, rfl, _, _, rfl, rfl, ?_⟩
    refine ⟨_, rfl, .str k, .str k, rfl, .str k, (by show k.length ≤ 4000; omega), fun H2 s2 => ⟨_, rfl, ?_⟩⟩
    show if kindB k = true then _ else _
    cases kb : kindB k with
    | false =>
      rw [kb] at q
      exact iteF (q _ (s1.trans s2))
    | true =>
      rw [kb] at q
      refine iteT ⟨_, rfl, rfl, _, rfl, ?_⟩
      by_cases c : s' = ""
      · refine iteP (decide_eq_true (congrArg V.str c)) ?_
        rw [decide_eq_true c] at q
        exact q _ (s1.trans s2)
      · refine iteN (decide_eq_false fun e => c (V.str.inj e)) ?_
        rw [decide_eq_false c] at q
        exact ⟨_, rfl, d, rfl, by omega, fun H3 s3 => q _ ((s1.trans s2).trans s3)⟩
/-! is_exact: slots 0:word 1:kind 2:star 3:digits -/
abbrev s_is_exact : Stmt := topS 41
theorem sc_is_exact : FnScope ["word", "kind", "star", "digits"] ["word"] (defScope s_is_exact) := ⟨rfl, rfl, rfl, by decide +kernel, rfl, by decide +kernel, by decide +kernel⟩
def sp_is_exact : Sp := fun vs H Q _ => ∃ z : Str, vs = [.str z] ∧ z.length ≤ 4000 ∧ ((runO z).isSome = true ∨ z = "-") ∧ ∀ H', Same H H' → Q (.bl (exO z)) H'
theorem ok_is_exact (D : Df K mg "is_exact" s_is_exact) : Has P w K mg base 1 "is_exact" ["word"] sp_is_exact := by
  refine has_of D sc_is_exact (fun _ _ _ _ _ _ us hl => match us, hl with | [_], _ => rfl) (fun vs H Q E h => ?_) (fun f cdv A outer s H vs Q E hr h => ?_)
  · obtain ⟨_, rfl, _⟩ := h
    rfl
  · obtain ⟨z, rfl, lz, hz, q⟩ := h
    obtain ⟨k, s', d, ep, es, hh⟩ := run_parts z
    obtain ⟨lk, ld⟩ := part_len ep
    refine ⟨_, (pss_cons (ps_asg (pe_partition (pv 0) pe_str) (pg_tup rfl (pgs_cons (pg_name (i := 1) sc_is_exact.nd rfl (by first | exact Or.inl rfl | exact Or.inr rfl)) (pgs_cons (pg_name (i := 2) sc_is_exact.nd rfl (by first | exact Or.inl rfl | exact Or.inr rfl)) (pgs_cons (pg_name (i := 3) sc_is_exact.nd rfl (by first | exact Or.inl rfl | exact Or.inr rfl)) pgs_nil)))))
    (pss_one (ps_ret (pe_or (pe_cmpR op_eq (pv 2) pe_str (nomark _)) (pe_one (pe_and (pe_cmpR op_ne (pe_ix ix_str (pv 3) pe_int (fun _ _ => rfl)) pe_str (nomark _)) (pe_one (pe_cmpR op_ne (pv 3) pe_str (nomark _))))))))), ?_⟩
    refine ⟨_, rfl, ⟨_, rfl⟩, _, _, rfl, rfl, (by decide +kernel), smallE (by omega), fun p np => ?_⟩
    rw [ep]
    have s1 := same_upd (o := .tup [.str k, .str s', .str d]) np
    refine ⟨p, _, rfl, .of upd_same, rfl, _, _, rfl, _, _, rfl, _, _, rfl, rfl, ?_⟩
    have cs : (s' = "" ∧ exO z = true) ∨ (s' = "*" ∧ digB d = true ∧ exO z = (!decide ((TL.tl d).head? = some 48) && !decide (d = "1"))) := by
      rcases hz with hz | hz
      · obtain ⟨r, er⟩ := Option.isSome_iff_exists.mp hz
        rcases hh r er with ⟨a, _, b, _⟩ | ⟨a, b, _, _, c⟩
        · exact .inl ⟨a, b⟩
        · exact .inr ⟨a, b, c⟩
      · subst hz
        have e2 : Txt.partition ("-" : Str) "*" = (("-" : Str), ("" : Str), ("" : Str)) := by decide +kernel
        rw [e2] at ep
        cases ep
        exact .inl ⟨rfl, by decide +kernel⟩
    rcases cs with ⟨rfl, ex⟩ | ⟨rfl, dg, ex⟩
    · rw [ex] at q
      exact ⟨_, rfl, rfl, _, rfl, iteP (decide_eq_true rfl) (q _ s1)⟩
    · refine ⟨_, rfl, rfl, _, rfl, iteN (decide_eq_false (fun e => absurd (show ("*" : Str) = "" from V.str.inj e) (by decide +kernel))) ?_⟩
      obtain ⟨c, t, et⟩ := List.exists_cons_of_ne_nil (dig_all dg).2
      refine ⟨_, rfl, _, 0, c, rfl, rfl, smallE (show d.length ≤ 1000000 by omega), ?_, rfl, _, rfl, ?_⟩
      · show atI (TL.tl d) 0 = some c
        rw [et]
        exact atI_ofB (Int.le_refl _) rfl
      · have e0 : decide (V.str (⟨#[c]⟩ : Str) = V.str "0") = decide ((TL.tl d).head? = some 48) := by
          rw [et]
          refine decide_eq_decide.mpr ⟨fun e => ?_, fun e => ?_⟩
          · have := congrArg TL.tl (V.str.inj e)
            rw [show TL.tl ("0" : Str) = [48] by decide +kernel] at this
            exact congrArg some (List.head_eq_of_cons_eq this)
          · cases e
            exact congrArg V.str (TL.ext_tl (by decide +kernel))
        show if (!decide (V.str (⟨#[c]⟩ : Str) = V.str "0")) = true then _ else _
        rw [e0]
        rw [ex] at q
        cases b : decide ((TL.tl d).head? = some 48) with
        | true =>
          rw [b] at q
          exact iteF (q _ s1)
        | false =>
          rw [b] at q
          refine iteT ⟨_, rfl, rfl, ?_⟩
          have e1 : decide (V.str d = V.str "1") = decide (d = "1") := decide_eq_decide.mpr ⟨fun e => V.str.inj e, fun e => congrArg V.str e⟩
          show Q (.bl (!decide (V.str d = V.str "1"))) _
          rw [e1]
          exact q _ s1
/-! run_in: slots 0:word 1:kind 2:star 3:digits -/
abbrev s_run_in : Stmt := topS 42
theorem sc_run_in : FnScope ["word", "kind", "star", "digits"] ["word"] (defScope s_run_in) := ⟨rfl, rfl, rfl, by decide +kernel, rfl, by decide +kernel, by decide +kernel⟩
def sp_run_in : Sp := fun vs H Q _ => ∃ (z : Str) (r : Run), vs = [.str z] ∧ z.length ≤ 600 ∧ runO z = some r ∧ ∀ H' p, Same H H' → H p = none → H' p = some (.tup [.str r.1, .int r.2]) → Q (.ref p) H'
theorem ok_run_in (D : Df K mg "run_in" s_run_in) (G_number_in : Has P w K mg base 1 "number_in" ["digits"] sp_number_in) : Has P w K mg base 2 "run_in" ["word"] sp_run_in := by
  refine has_of D sc_run_in (fun _ _ _ _ _ _ us hl => match us, hl with | [_], _ => rfl) (fun vs H Q E h => ?_) (fun f cdv A outer s H vs Q E hr h => ?_)
  · obtain ⟨_, _, rfl, _⟩ := h
    rfl
  · obtain ⟨z, r, rfl, lz, er, q⟩ := h
    obtain ⟨k, s', d, ep, es, hh⟩ := run_parts z
    obtain ⟨lk, ld⟩ := part_len ep
    refine ⟨_, (pss_cons (ps_asg (pe_partition (pv 0) pe_str) (pg_tup rfl (pgs_cons (pg_name (i := 1) sc_run_in.nd rfl (by first | exact Or.inl rfl | exact Or.inr rfl)) (pgs_cons (pg_name (i := 2) sc_run_in.nd rfl (by first | exact Or.inl rfl | exact Or.inr rfl)) (pgs_cons (pg_name (i := 3) sc_run_in.nd rfl (by first | exact Or.inl rfl | exact Or.inr rfl)) pgs_nil)))))
    (pss_one (ps_ret (pe_tup (pa_cons (pv 1) (pa_cons (pe_ifExp (pt_cmpR op_eq (pv 2) pe_str (nomark _)) pe_int (pe_callH G_number_in (hr.mono (by omega)) (by rfl) (pa_cons (pv 3) pa_nil))) pa_nil)))))), ?_⟩
    refine ⟨_, rfl, ⟨_, rfl⟩, _, _, rfl, rfl, (by decide +kernel), smallE (by omega), fun p np => ?_⟩
    rw [ep]
    refine ⟨p, _, rfl, .of upd_same, rfl, _, _, rfl, _, _, rfl, _, _, rfl, rfl, ?_⟩
    have s1 := same_upd (o := .tup [.str k, .str s', .str d]) np
    rcases hh r er with ⟨rfl, rfl, _, _⟩ | ⟨rfl, dg, rfl, _, _⟩
    · exact ⟨_, rfl, _, rfl, rfl, _, rfl, iteP (decide_eq_true rfl) ⟨(by show 2 ≤ sizeLine; decide), fun p2 n2 => q _ p2 (s1.trans (same_upd n2)) (s1.free n2) upd_same⟩⟩
    · refine ⟨_, rfl, _, rfl, rfl, _, rfl, iteN (decide_eq_false (fun e => absurd (show ("*" : Str) = "" from V.str.inj e) (by decide +kernel))) ?_⟩
      exact ⟨_, rfl, d, rfl, dg, by omega, (by show 2 ≤ sizeLine; decide), fun p2 n2 => q _ p2 (s1.trans (same_upd n2)) (s1.free n2) upd_same⟩
/-! is_entry_word: slots 0:word -/
abbrev s_is_entry_word : Stmt := topS 43
theorem sc_is_entry_word : FnScope ["word"] ["word"] (defScope s_is_entry_word) := ⟨rfl, rfl, rfl, by decide +kernel, rfl, by decide +kernel, by decide +kernel⟩
def sp_is_entry_word : Sp := fun vs H Q _ => ∃ z : Str, vs = [.str z] ∧ z.length ≤ 4000 ∧ ∀ H', Same H H' → Q (.bl (entO z).isSome) H'
theorem ok_is_entry_word (D : Df K mg "is_entry_word" s_is_entry_word) (G_is_kind : Has P w K mg base 1 "is_kind" ["value"] sp_is_kind) : Has P w K mg base 2 "is_entry_word" ["word"] sp_is_entry_word := by
  refine has_of D sc_is_entry_word (fun _ _ _ _ _ _ us hl => match us, hl with | [_], _ => rfl) (fun vs H Q E h => ?_) (fun f cdv A outer s H vs Q E hr h => ?_)
  · obtain ⟨e, rfl, _⟩ := h
    rfl
  · obtain ⟨z, rfl, lz, q⟩ := h
    have hz : z.length ≤ sizeLine := smallE (by omega)
    refine ⟨_, (pss_one (ps_ret (pe_and (pe_cmpR op_in_seq (pe_slice sl_str (pv 0) (po_some (pe_un un_neg pe_int)) po_none) (pe_tup (pa_cons pe_str (pa_cons pe_str pa_nil))) (by with_unfolding_all rfl)) (pe_one (pe_or (pe_cmpR op_eq (pe_slice sl_str (pv 0) po_none (po_some (pe_un un_neg pe_int))) pe_str (nomark _)) (pe_one (pe_callH G_is_kind (hr.mono (by omega)) (by rfl) (pa_cons (pe_slice sl_str (pv 0) po_none (po_some (pe_un un_neg pe_int))) pa_nil)))))))), ?_⟩
    refine ⟨_, rfl, 1, rfl, _, rfl, _, rfl, hz, (by show 2 ≤ sizeLine; decide), fun t nt => ?_⟩
    have s1 := same_upd (o := .tup [.str "+", .str "-"]) nt
    refine ⟨t, _, rfl, .inr (.of upd_same), rfl, rfl, ?_⟩
    rw [if_neg (by decide)]
    rcases ent_cases z with ⟨rfl, en⟩ | ⟨a, c, ez, la, en⟩
    · rw [show cutS ("" : Str) (some (-1)) none = "" by decide +kernel, show inV (.str "") [.str "+", .str "-"] = false by decide +kernel]
      rw [en] at q
      exact ⟨false, rfl, iteF (q _ s1)⟩
    · rw [cut_tail ez, one_in]
      rw [en] at q
      by_cases h : c = 43 ∨ c = 45
      · rw [decide_eq_true h]
        rw [if_pos h] at q
        refine ⟨true, rfl, iteT ?_⟩
        refine ⟨_, rfl, 1, rfl, _, rfl, _, rfl, hz, ?_⟩
        rw [cut_head ez]
        refine ⟨rfl, _, rfl, ?_⟩
        by_cases hq : a = "?"
        · rw [if_pos hq] at q
          exact iteP (decide_eq_true (congrArg V.str hq)) (q _ s1)
        · rw [if_neg hq] at q
          refine iteN (decide_eq_false fun e => hq (V.str.inj e)) ?_
          refine ⟨_, rfl, 1, rfl, _, rfl, _, rfl, hz, ?_⟩
          rw [cut_head ez]
          refine ⟨.str a, .str a, rfl, .str a, (by show a.length ≤ 4000; omega), fun H2 s2 => ?_⟩
          have : (if kindB a = true then some ((some a, decide (c = 43)) : En) else none).isSome = kindB a := by cases kindB a <;> rfl
          rw [this] at q
          exact q _ (s1.trans s2)
      · rw [decide_eq_false h]
        rw [if_neg h] at q
        exact ⟨false, rfl, iteF (q _ s1)⟩
/-! entry_in: slots 0:word -/
abbrev s_entry_in : Stmt := topS 44
theorem sc_entry_in : FnScope ["word"] ["word"] (defScope s_entry_in) := ⟨rfl, rfl, rfl, by decide +kernel, rfl, by decide +kernel, by decide +kernel⟩
def sp_entry_in : Sp := fun vs H Q _ => ∃ (z : Str) (e : En), vs = [.str z] ∧ z.length ≤ 4000 ∧ entO z = some e ∧ ∀ H' p, Same H H' → H p = none → H' p = some (.tup [koV e.1, .str (actS e.2)]) → Q (.ref p) H'
theorem ok_entry_in (D : Df K mg "entry_in" s_entry_in) (TD : ActT K w mg aA) : Has P w K mg base 1 "entry_in" ["word"] sp_entry_in := by
  refine has_of D sc_entry_in (fun _ _ _ _ _ _ us hl => match us, hl with | [_], _ => rfl) (fun vs H Q E h => ?_) (fun f cdv A outer s H vs Q E hr h => ?_)
  · obtain ⟨_, e, rfl, _⟩ := h
    rfl
  · obtain ⟨z, e, rfl, lz, en, q⟩ := h
    have hz : z.length ≤ sizeLine := smallE (by omega)
    rcases ent_cases z with ⟨_, e0⟩ | ⟨a, c, ez, la, e0⟩
    · rw [e0] at en; cases en
    rw [e0] at en
    by_cases h : c = 43 ∨ c = 45
    case neg => rw [if_neg h] at en; cases en
    rw [if_pos h] at en
    have sg : (⟨#[c]⟩ : Str) = sgnS (decide (c = 43)) := by
      rcases h with h | h <;> (rw [h]; decide +kernel)
    refine ⟨_, (pss_one (ps_ret (pe_tup (pa_cons (pe_ifExp (pt_cmpR op_eq (pe_slice sl_str (pv 0) po_none (po_some (pe_un un_neg pe_int))) pe_str (nomark _)) pe_non (pe_slice sl_str (pv 0) po_none (po_some (pe_un un_neg pe_int)))) (pa_cons (pe_ix ix_kdict (pe_glob (v := .ref aA) (by rfl) TD.a_ACTIONS rfl) (pe_ix ix_str (pv 0) (pe_un un_neg pe_int) (fun _ _ => rfl)) (fun _ _ => rfl)) pa_nil))))), ?_⟩
    refine ⟨_, rfl, 1, rfl, _, rfl, _, rfl, hz, ?_⟩
    rw [cut_head ez]
    by_cases hq : a = "?"
    · rw [if_pos hq] at en
      cases en
      refine ⟨rfl, _, rfl, iteP (decide_eq_true (congrArg V.str hq)) ?_⟩
      refine ⟨_, rfl, 1, rfl, _, -1, _, rfl, rfl, hz, at_tail ez, ?_⟩
      rw [sg]
      exact ⟨aA, _, _, rfl, rfl, TD.ac_ (decide (c = 43)), (by show 2 ≤ sizeLine; decide), fun p np => q _ p (same_upd np) np upd_same⟩
    · rw [if_neg hq] at en
      cases kb : kindB a with
      | false => rw [kb] at en; cases en
      | true =>
        rw [kb] at en
        cases en
        refine ⟨rfl, _, rfl, iteN (decide_eq_false fun e => hq (V.str.inj e)) ?_⟩
        refine ⟨_, rfl, 1, rfl, _, rfl, _, rfl, hz, ?_⟩
        rw [cut_head ez]
        refine ⟨_, rfl, 1, rfl, _, -1, _, rfl, rfl, hz, at_tail ez, ?_⟩
        rw [sg]
        exact ⟨aA, _, _, rfl, rfl, TD.ac_ (decide (c = 43)), (by show 2 ≤ sizeLine; decide), fun p np => q _ p (same_upd np) np upd_same⟩
end
end UP

set_option Elab.async false
set_option linter.all false
set_option maxRecDepth 100000
set_option maxHeartbeats 4000000
/-! walks over lists and tuples while an exception is handled: the StopIteration at their end takes the handled one as its context -/
namespace UPH
open PySem PySem.Spec PyProof.Rows L2 HotX L2H
section
variable {prog : Program} {w : World} {A : Around} {E : Value → Shared → Prop} {s : Shared}
/-- a new StopIteration, raised and caught by pyNext -/
theorem stop_hot {α : Type} {B : Around} {x1 : Addr} {Q : Option Value → Shared → Prop} (hot : HotAt A x1 s.heap) (hQ : ∀ h', (∀ b o, s.heap.get? b = some o → h'.get? b = some o) → Q none { s with heap := h' }) :
    wpAny (model prog w) A (Builtin.SmallTypes.stopIteration : Sem α) (fun _ _ => False) (fun e s1 => wpAny (model prog w) B (isInstance e (.type "StopIteration")) (fun b s2 => b = true ∧ Q none s2) E s1) s := by
  obtain ⟨hh, o1, vs1, h1, d1, c1⟩ := hot
  show wpAny _ _ (newExc (.type "StopIteration") [] >>= _) _ _ _
  refine wpAny_bind ?_
  simp only [newExc, newTuple]
  refine wpAny_bind (wpAny_newObj_type ?_ (by size_fits))
  refine wpAny_bind (m := firstArgMember _ _) (wpAny_of_eq (a := Value.none) (by first | rfl | (simp only [firstArgMember]; rfl)) ?_)
  refine wpAny_newObj_type ?_ (by size_fits)
  refine raiseNew_hot ⟨hh, o1, vs1, Heap.get?_push_of_some _ (Heap.get?_push_of_some _ h1), d1, c1⟩ (Nat.ne_of_lt (Heap.lt_size (Heap.get?_push_of_some _ h1))) (Heap.get?_push_size _ rfl) rfl (by first | (simp; done) | (simp; omega) | (simp only [Array.size_append]; simp; omega)) ?_
  refine wpAny_isInstance (T := "StopIteration") (b := true) ⟨_, Heap.get?_update_self _ (Heap.get?_push_size _ rfl) rfl, rfl⟩ isSubtype_stop ⟨rfl, hQ _ fun b o e => ?_⟩
  rw [Heap.get?_update_other _ _ (Nat.ne_of_gt (Heap.lt_size (Heap.get?_push_of_some _ e)))]
  exact Heap.get?_push_of_some _ (Heap.get?_push_of_some _ e)
/-- the end of a list's iterator -/
theorem next_list_end_hot {it l x1 : Addr} {i : Nat} {items : Array Value} {Q : Option Value → Shared → Prop} (hot : HotAt A x1 s.heap) (hne : x1 ≠ it)
    (hit : s.heap.IsListIter it l i) (hl : s.heap.IsList l items) (hx : items[i]? = none)
    (hQ : ∀ h', Heap.ExtBut it s.heap h' → Q none { s with heap := h' }) : wpAny (model prog w) A (pyNext (.ref it)) Q E s := by
  obtain ⟨hh, o1, vs1, h1, d1, c1⟩ := hot
  obtain ⟨o, ho, hc, hd⟩ := id hit
  obtain ⟨ol, hol, _, nl, hdl⟩ := hl
  unfold pyNext
  refine wpAny_bind (wpAny_attempt (wpAny_callSpecial?_slot (name := Str.ofString "__next__") hit.typeIs slot_listiter_next
    (wpAny_call_entry slot_listiter_next hit.typeIs entry_listiter_next ?_ (args_listiter_next _))))
  show wpAny _ _ (field (.ref it) 0 >>= _) _ _ s
  refine wpAny_bind (wpAny_field ho hd (x := .ref l) rfl ?_)
  show wpAny _ _ (if (Value.ref l == Value.none) = true then _ else _) _ _ s
  rw [if_neg (show ¬ ((Value.ref l == Value.none) = true) from Bool.false_ne_true)]
  show wpAny _ _ (field (.ref it) 1 >>= _) _ _ s
  refine wpAny_bind (wpAny_field ho hd (x := .int i 0) rfl ?_)
  show wpAny _ _ (seqItems? (.ref l) >>= _) _ _ s
  refine wpAny_bind (wpAny_seqItems hol hdl ?_)
  simp only [Int.toNat_natCast, hx]
  refine wpAny_bind (wpAny_rule (wpAny_bind (wpAny_setField ho hd (by simp) ?_)))
  have h2 : (s.heap.update it (Obj.mapFields (·.setIfInBounds 0 .none))).get? x1 = some o1 := by
    rw [Heap.get?_update_other _ _ hne.symm]
    exact h1
  refine wpAny_mono (stop_hot (A := A.in1) (B := A) (E := E) (Q := Q) ⟨hh, o1, vs1, h2, d1, c1⟩ fun h' eb => hQ h' fun b o hb e => eb b o ?_) (fun _ _ z => False.elim z) (fun e s1 z => ?_)
  · rw [Heap.get?_update_other _ _ (Ne.symm hb)]
    exact e
  · refine wpAny_bind (wpAny_mono z (fun b s2 ⟨e1, q⟩ => ?_) fun _ _ y => y)
    subst e1
    exact wpAny_pure q
/-- the end of a tuple's iterator -/
theorem next_tuple_end_hot {it t x1 : Addr} {i : Nat} {items : Array Value} {Q : Option Value → Shared → Prop} (hot : HotAt A x1 s.heap) (hne : x1 ≠ it)
    (hit : IsTupIter s.heap it t i) (ht : IsTup s.heap t items) (hx : items[i]? = none)
    (hQ : ∀ h', Heap.ExtBut it s.heap h' → Q none { s with heap := h' }) : wpAny (model prog w) A (pyNext (.ref it)) Q E s := by
  obtain ⟨hh, o1, vs1, h1, d1, c1⟩ := hot
  obtain ⟨o, ho, hc, hd⟩ := id hit
  obtain ⟨ol, hol, _, nl, hdl⟩ := ht
  unfold pyNext
  refine wpAny_bind (wpAny_attempt (wpAny_callSpecial?_slot (name := Str.ofString "__next__") hit.typeIs slot_tupleiter_next
    (wpAny_call_entry slot_tupleiter_next hit.typeIs entry_tupleiter_next ?_ (args_tupleiter_next _))))
  show wpAny _ _ (field (.ref it) 0 >>= _) _ _ s
  refine wpAny_bind (wpAny_field ho hd (x := .ref t) rfl ?_)
  show wpAny _ _ (if (Value.ref t == Value.none) = true then _ else _) _ _ s
  rw [if_neg (show ¬ ((Value.ref t == Value.none) = true) from Bool.false_ne_true)]
  show wpAny _ _ (field (.ref it) 1 >>= _) _ _ s
  refine wpAny_bind (wpAny_field ho hd (x := .int i 0) rfl ?_)
  show wpAny _ _ (seqItems? (.ref t) >>= _) _ _ s
  refine wpAny_bind (wpAny_seqItems hol hdl ?_)
  simp only [Int.toNat_natCast, hx]
  refine wpAny_bind (wpAny_rule (wpAny_bind (wpAny_setField ho hd (by simp) ?_)))
  have h2 : (s.heap.update it (Obj.mapFields (·.setIfInBounds 0 .none))).get? x1 = some o1 := by
    rw [Heap.get?_update_other _ _ hne.symm]
    exact h1
  refine wpAny_mono (stop_hot (A := A.in1) (B := A) (E := E) (Q := Q) ⟨hh, o1, vs1, h2, d1, c1⟩ fun h' eb => hQ h' fun b o hb e => eb b o ?_) (fun _ _ z => False.elim z) (fun e s1 z => ?_)
  · rw [Heap.get?_update_other _ _ (Ne.symm hb)]
    exact e
  · refine wpAny_bind (wpAny_mono z (fun b s2 ⟨e1, q⟩ => ?_) fun _ _ y => y)
    subst e1
    exact wpAny_pure q
theorem unpackItems_hot {t x1 : Addr} {items : Array Value} {Q : List Value → Shared → Prop} (hot : HotAt A x1 s.heap) (ht : IsTup s.heap t items)
    (hQ : ∀ h', Heap.ExtBut s.heap.objs.size s.heap h' → Q items.toList { s with heap := h' }) : wpAny (model prog w) A (unpackItems (.ref t) items.size none) Q E s := by
  have hlt : t ≠ s.heap.objs.size := by obtain ⟨o, ho, _⟩ := ht; exact Nat.ne_of_lt (Heap.lt_size ho)
  obtain ⟨hh, o1, vs1, h1, d1, c1⟩ := hot
  have hx1 : x1 ≠ s.heap.objs.size := Nat.ne_of_lt (Heap.lt_size h1)
  unfold unpackItems
  refine wpAny_bind ?_
  · unfold notIterableAtAll
    refine wpAny_bind (wpAny_specialOf ht.typeIs slot_tuple_iter.lookup ?_)
    refine wpAny_pure ?_
    simp only [Bool.false_eq_true, if_false]
    refine wpAny_bind (wpAny_holding (iter_tuple ht ?_))
    refine wpAny_bind (wpAny_holding (draw_tuple hlt items.size 0 _ _ ⟨_, Heap.get?_push_size _ rfl, rfl, rfl⟩ (ht.push _) (by omega) fun h₁ hit₁ hs₁ => ?_))
    have hall : List.take items.size (List.drop 0 items.toList) = items.toList := by
      rw [List.drop_zero]; exact List.take_of_length_le (by simp)
    rw [hall]
    rw [if_neg (by simp)]
    have ht₁ : IsTup h₁ t items := (ht.push _).extBut hs₁.extBut hlt
    have h1' : h₁.get? x1 = some o1 := (hs₁.extBut) x1 o1 hx1 (Heap.get?_push_of_some _ h1)
    refine wpAny_bind (wpAny_holding (next_tuple_end_hot ⟨hh, o1, vs1, h1', d1, c1⟩ hx1 hit₁ ht₁ (by simp) fun h₂ he₂ => ?_))
    simp only [Option.isSome_none, Bool.false_eq_true, if_false]
    exact wpAny_pure (hQ h₂ fun b o hb e => he₂ b o hb (hs₁.extBut b o hb (Heap.get?_push_of_some _ e)))
theorem assign_Tuple_hot {env : Env} {elts : List Expr} {k : Nat} {pos : Pos} {t x1 : Addr} {items : Array Value} {Q : Unit → Shared → Prop} (hot : HotAt A x1 s.heap) (ht : IsTup s.heap t items)
    (hn : (assignEach elts env).length = items.size) (hstar : (assignEach elts env).findIdx? (·.1) = none)
    (h : ∀ h', Heap.ExtBut s.heap.objs.size s.heap h' → wpAny (model prog w) A (assignInOrder ((assignEach elts env).map (·.2)) items.toList) Q E { s with heap := h' }) :
    wpAny (model prog w) A (assign (.Tuple elts k pos) env (.ref t)) Q E s := by
  rw [assign_Tuple]
  refine wpAny_bind (wpAny_standAt ?_)
  unfold unpack
  rw [hn, hstar]
  exact wpAny_bind (wpAny_holding (unpackItems_hot hot ht h))
end
/-! ### targets and blocks in a context that bears a handled exception -/
section
variable {X : Cx}
theorem pg_tupH {es : List Expr} {k : Nat} {t : TGs} {n : Nat} {pos : Pos} (hc : HotC X) (h : PGs X es t)
    (hn : (assignEach es X.env).length = n := by rfl) (hst : (assignEach es X.env).findIdx? (·.1) = none := by rfl) : PG X (.Tuple es k pos) (gTup X.K n t) := by
  refine ⟨fun pins s σ H v u Q I r hw => ?_⟩
  obtain ⟨a, xs, e1, hq, hl, hw⟩ := hw
  subst e1
  cases r
  obtain ⟨its, rv, ht, hz⟩ := I.tuple hq
  obtain ⟨x1, hot⟩ := hc.at I
  refine assign_Tuple_hot hot ht (by simp [hn, ← hl, rv.length]) hst fun h' hx => ?_
  exact h.run pins _ σ H xs _ Q (I.kept (t' := s.toks) fun b o e => hx b o (Nat.ne_of_lt (Heap.lt_size e)) e) (by simpa using rv) hw
/-- a block's context, with what the def's context holds pinned -/
abbrev blkH (X : Cx) (s : Shared) (H : Hp) (scope : Scope) (cenv : Env) (fp : List Addr) (p : Addr × Obj) : Cx := { X.blk s H scope cenv fp with pn := [p] }
theorem to_blkH {s : Shared} {H : Hp} {scope : Scope} {cenv : Env} {fp : List Addr} {p : Addr × Obj} {σ : L2.St} {H' : Hp} {s' : Shared} (I : Inv (X.blk s H scope cenv fp) [] σ H' s') (hp : s'.heap.get? p.1 = some p.2 ∧ H' p.1 = none ∧ p.1 ≠ cenv.locals ∧ p.1 ∉ frs X.stack ∧ ∀ v, p.2.data ≠ .cell v) : Inv (blkH X s H scope cenv fp p) [] σ H' s' :=
  ⟨⟨I.ok.mod, I.ok.kind, I.ok.glob, I.ok.blt, I.ok.above, I.ok.inj, I.ok.has, I.ok.cab, I.ok.hd, I.ok.frames, I.ok.stk, I.ok.exf, I.ok.bs, I.ok.bsz, I.ok.noex, I.ok.exfs, I.ok.funs, I.ok.frf⟩, I.os, I.bare, I.base, I.loc, I.cell, I.free, I.freeC, fun q hq => by
    have : q = p := by simpa using hq
    rw [this]
    exact hp, I.hok, I.len⟩
/-- the core of a list comprehension over a list, an exception being handled -/
theorem lc_hot {pins : List (Addr × Obj)} {s : Shared} {σ : L2.St} {H : Hp} {Q : VK} {elt tg iter : Expr} {ifs : List Expr} {scope : Scope} {own : List (Str × Nat)} {pos pos' : Pos} {tl : TE} {g : TG} {tt : TT} {te : TE} {use : Option (Value → Sem Unit)} {Qf : Value → Shared → Prop}
    (hc : HotC X) (hN : X.N.Nodup) (I : Inv X pins σ H s) (hl : PE X iter tl) (ok : BlkOk X.N X.env.scope scope own)
    (hg : ∀ (s : Shared) (H : Hp) (C : Addr) (cl : List (Str × Addr)) (fp : List Addr) (p : Addr × Obj), Hot1 X.A p → PG (blkH X s H scope (compEnvC scope cl C X.env) fp p) tg g)
    (ht : ∀ (s : Shared) (H : Hp) (C : Addr) (cl : List (Str × Addr)) (fp : List Addr) (p : Addr × Obj), Hot1 X.A p → PTs (blkH X s H scope (compEnvC scope cl C X.env) fp p) ifs tt)
    (he : ∀ (s : Shared) (H : Hp) (C : Addr) (cl : List (Str × Addr)) (fp : List Addr) (p : Addr × Obj), Hot1 X.A p → PE (blkH X s H scope (compEnvC scope cl C X.env) fp p) elt te)
    (hs : ∀ x, foldedSetIterable iter X.env x = pure x)
    (h : tLc (iList X.K tl) g tt te (own.map (·.2)) σ H Q)
    (hRR : ∀ D C s' m H', Inv X pins σ H' s' → Q (.ref D) H' → s'.heap.Ns C m → FpOk X pins H' C → compPost (model X.prog X.w) X.A X.xe use Qf (.ref D) C (.ok .next) s') :
    wpAny (model X.prog X.w) X.A (comprehension (.ListComp elt [⟨tg, iter, ifs, 0⟩] scope pos) scope X.env pos' (newList []) false (eval iter X.env) use) Qf X.xe s := by
  obtain ⟨p, hp1, hpn⟩ := hc
  have hfree : ∀ y ∈ scope.names, y.2 = .free → ∃ c, X.env.cells.lookup y.1 = some c := fun y hy e => (ok.free y hy e).elim (fun k => I.ok.has _ (.inl k)) fun k => I.ok.has _ (.inr k)
  refine wpAny_comprehension_free (use := use) rfl hs (closure_ok hfree) ok.kind (fun y hy e => by rw [ok.uniq y hy, e]) (thn (hl.run pins s σ H _ I h) fun xv s1 hx => ?_)
  obtain ⟨x, H1, I1, r1, a, e, ⟨xs, hq⟩, q⟩ := hx
  subst e
  cases r1
  obtain ⟨its, rv, pl, hz⟩ := I1.list hq
  refine wpAny_pyIter_list pl.isList ?_
  generalize hit : s1.heap.objs.size = it
  generalize hs2 : ({ s1 with heap := s1.heap.push _ } : Shared) = s2
  have kp2 : ∀ b o, s1.heap.get? b = some o → s2.heap.get? b = some o := fun b o e => by rw [← hs2]; exact Heap.get?_push_of_some _ e
  have I2 : Inv X pins σ H1 s2 := by rw [← hs2]; exact I1.kept (t' := s1.toks) fun b o e => Heap.get?_push_of_some _ e
  have st2 : s2.heap.IsListIter it a 0 := by
    rw [← hs2, ← hit]
    exact ⟨_, Heap.get?_push_size _ rfl, rfl, rfl⟩
  have f2 : FpOk X pins H1 it := I1.fpOk (Nat.le_of_eq hit) (I1.hok.fresh (Nat.le_of_eq hit))
  refine wpAny_newObj_type (newEnv_comp ?_) (by show 0 ≤ sizeLine; decide)
  generalize hD : s2.heap.objs.size = D
  have hDn : H1 D = none := I2.hok.fresh (Nat.le_of_eq hD)
  obtain ⟨W, ⟨m0, w0⟩, turn⟩ := q D hDn
  generalize hs3 : ({ s2 with heap := s2.heap.push { cls := .type "list", data := .seq ([] : List Value).toArray } } : Shared) = s3
  have kp3 : ∀ b o, s2.heap.get? b = some o → s3.heap.get? b = some o := fun b o e => by rw [← hs3]; exact Heap.get?_push_of_some _ e
  have I3 : Inv X pins σ (upd H1 D (.lst [])) s3 := by
    rw [← hs3]
    refine I2.laid (t' := s2.toks) (fun b o e => Heap.get?_push_of_some _ e) (Nat.le_of_eq hD) ⟨Nat.zero_le _, [], 0, .nil, ?_⟩
    rw [← hD]
    exact Heap.get?_push_size _ rfl
  have ltD : it < D := by
    obtain ⟨o, ho, _⟩ := st2
    rw [← hD]
    exact Heap.lt_size ho
  have st3 : s3.heap.IsListIter it a 0 := by
    obtain ⟨o, ho, z⟩ := st2
    exact ⟨o, kp3 _ _ ho, z⟩
  have lt3 : it < s3.heap.objs.size := by
    obtain ⟨o, ho, _⟩ := st3
    exact Heap.lt_size ho
  have n3 : (upd H1 D (.lst [])) it = none := by
    rw [upd_ne (Nat.ne_of_lt ltD)]
    exact f2.1
  have f3 : FpOk X pins (upd H1 D (.lst [])) it := ⟨n3, f2.2⟩
  have pin3 := I3.pin p (List.mem_append_left _ hpn)
  have pne : p.1 ≠ it := f2.2.2.2.2.2 p (List.mem_append_left _ hpn)
  have I4 := block_start I3 ok hN (fp := [it]) fun b hb => by
    have : b = it := by simpa using hb
    rw [this]
    exact ⟨f3, lt3⟩
  generalize hH3 : upd H1 D (.lst []) = H3 at *
  have pg := hg s3 H3 s3.heap.objs.size (cellsFrom (s3.heap.objs.size + 1) scope.names (cloFrom X.env.cells scope.names [])) [it] p hp1
  have pt := ht s3 H3 s3.heap.objs.size (cellsFrom (s3.heap.objs.size + 1) scope.names (cloFrom X.env.cells scope.names [])) [it] p hp1
  have pe := he s3 H3 s3.heap.objs.size (cellsFrom (s3.heap.objs.size + 1) scope.names (cloFrom X.env.cells scope.names [])) [it] p hp1
  show codeAny _ _ (.compStart (.ListComp elt [⟨tg, iter, ifs, 0⟩] scope pos) 0 (.ref it) (.ref D) (compEnvC scope (cellsFrom (s3.heap.objs.size + 1) scope.names (cloFrom X.env.cells scope.names [])) s3.heap.objs.size X.env)) (compPost (model X.prog X.w) X.A X.xe use Qf (.ref D) s3.heap.objs.size) { s3 with heap := pushCells (s3.heap.push { cls := .type "dict", data := .dict #[] }) scope.names }
  generalize hce : compEnvC scope (cellsFrom (s3.heap.objs.size + 1) scope.names (cloFrom X.env.cells scope.names [])) s3.heap.objs.size X.env = ce at I4 pg pt pe ⊢
  have cL : ce.locals = s3.heap.objs.size := by subst hce; rfl
  generalize hs4 : ({ s3 with heap := pushCells (s3.heap.push { cls := .type "dict", data := .dict #[] }) scope.names } : Shared) = s4 at I4 ⊢
  have kp4 : ∀ b o, s3.heap.get? b = some o → s4.heap.get? b = some o := fun b o e => by rw [← hs4]; exact pushCells_keeps _ _ _ _ (Heap.get?_push_of_some _ e)
  have st4 : s4.heap.IsListIter it a 0 := by
    obtain ⟨o, ho, z⟩ := st3
    exact ⟨o, kp4 _ _ ho, z⟩
  have B4 : Inv (blkH X s3 H3 scope ce [it] p) [] (wipe σ (own.map (·.2))) H3 s4 := to_blkH I4 ⟨kp4 _ _ pin3.1, pin3.2.1, by
    rw [cL]
    exact Nat.ne_of_lt (Heap.lt_size pin3.1), fun z => (List.mem_cons.mp (I3.stkSub _ z)).elim pin3.2.2.1 pin3.2.2.2.1, pin3.2.2.2.2⟩
  have stat : ∀ {σ' : L2.St} {H' : Hp} {s' : Shared}, Inv (blkH X s3 H3 scope ce [it] p) [] σ' H' s' → H' it = none → FpOk (blkH X s3 H3 scope ce [it] p) [] H' it := fun {σ' H' s'} I' hn =>
    have mem : it ∈ (blkH X s3 H3 scope ce [it] p).ex := List.mem_singleton.mpr rfl
    ⟨hn, (I'.ok.exf it mem).1, I'.ok.exfs it mem, .inl mem, fun x c e => (I'.ok.exf it mem).2 x c e, fun q hq => by
      have : q = p := by simpa using hq
      rw [this]
      exact pne⟩
  have self : ∀ (A : Around) (s : Shared) (Q : Value → Shared → Prop) (E : Value → Shared → Prop), s.heap.IsListIter it a 0 → Q (.ref it) s → wpAny (model X.prog X.w) A (pyIter (.ref it)) Q E s := fun _ _ _ _ st h => wpAny_pyIter_listiter st h
  have loop : codeAny (model X.prog X.w) X.A (.compLoop (.ListComp elt [⟨tg, iter, ifs, 0⟩] scope pos) 0 (.ref it) (.ref D) ce) (compPost (model X.prog X.w) X.A X.xe use Qf (.ref D) s3.heap.objs.size) s4 := by
    refine compLoop_any (fun n s' => ∃ i H', Inv (blkH X s3 H3 scope ce [it] p) [] (wipe σ (own.map (·.2))) H' s' ∧ s'.heap.IsListIter it a i ∧ H' it = none ∧ W i n H') ?_ m0 ⟨0, H3, B4, st4, n3, w0⟩
    rintro n s5 ⟨i, H5, I5, st5, n5, w5⟩
    obtain ⟨f0, f1, f2', f4, f5, f6⟩ := stat I5 n5
    rcases turn i n H5 w5 with ⟨stop, qq⟩ | ⟨go, Nx, hNx, step⟩
    · obtain ⟨ys, hys, hlen⟩ := stop
      obtain ⟨its5, rv5, pl5, hz5⟩ := I5.list hys
      have pin5 := I5.pin p (List.mem_singleton.mpr rfl)
      obtain ⟨hh, vs1, d1, c1⟩ := hp1
      have hl5 := rv5.length
      refine next_list_end_hot ⟨hh, p.2, vs1, pin5.1, d1, c1⟩ pne st5 pl5.isList (by simp; omega) fun h' eb => ?_
      have I6 : Inv (blkH X s3 H3 scope ce [it] p) [] (wipe σ (own.map (·.2))) H5 { s5 with heap := h' } := I5.turned (t' := s5.toks) (fun b o hb e => eb b o hb e) f0 f1 f4 f5 f6
      have I7 : Inv X pins σ H5 { s5 with heap := h' } := I3.call' (ch := [it]) I6.os I6.base I6.hok I6.bare fun b hb => by
        have : b = it := by simpa using hb
        rw [this]
        exact ⟨f3.2.2.2.1, f3.2.1, f3.2.2.2.2.1, f3.2.2.2.2.2⟩
      have nC : H5 s3.heap.objs.size = none := by
        have z : H5 ce.locals = none := I6.free
        rw [cL] at z
        exact z
      obtain ⟨m, hn, _⟩ := I6.loc
      have hn : Heap.Ns _ ce.locals m := hn
      rw [cL] at hn
      exact hRR D s3.heap.objs.size _ m H5 I7 qq hn (I3.fpOk (Nat.le_refl _) nC)
    · obtain ⟨ys, y, hys, hy⟩ := go
      obtain ⟨its5, rv5, pl5, hz5⟩ := I5.list hys
      obtain ⟨u, hu, ru⟩ := rv5.get hy
      refine wpAny_pyNext_list_item st5 pl5.isList (x := u) (by simpa using hu) fun h' st6 sb => ?_
      have I6 : Inv (blkH X s3 H3 scope ce [it] p) [] (wipe σ (own.map (·.2))) H5 { s5 with heap := h' } := I5.turned (t' := s5.toks) (fun b o hb e => (sb.2 b hb).trans e) f0 f1 f4 f5 f6
      obtain ⟨o, e, c, d⟩ := id st6
      refine thnF (go_of (s := { s5 with heap := h' }) e c d (by decide) (Q := fun _ s7 => Inv (blkH X s3 H3 scope ce [it] p) [] (wipe σ (own.map (·.2))) H5 s7 ∧ s7.heap.IsListIter it a (i + 1)) ⟨I6, st6⟩) fun _ s7 ⟨I7, st7⟩ => ?_
      have B7 := I7.pinned (fp := [it]) (fun b hb => by
        have : b = it := by simpa using hb
        rw [this]
        exact stat I7 n5) (fun b hb => by
        have : b = it := by simpa using hb
        rw [this]
        obtain ⟨o, e, c, d⟩ := st7
        exact ⟨o, e, fun v z => by rw [d] at z; cases z⟩)
      refine thnF (pg.run _ s7 _ H5 y u _ B7 ru (step y H5 ⟨rfl, fun zs hz => by rw [I5.list_inj hz hys]; exact hy⟩)) fun _ s8 ⟨σ8, H8, I8, hw8, q8⟩ => ?_
      refine thnF (pt.run _ s8 σ8 H8 _ I8 q8) fun b s9 ⟨H9, I9, q9⟩ => ?_
      have fin : ∀ {s' : Shared} {H' : Hp}, Inv (blkH X s3 H3 scope ce [it] p) ([] ++ pinsAt [it] s7.heap) σ8 H' s' → Nx H' → ∃ m, m < n ∧ ∃ i H', Inv (blkH X s3 H3 scope ce [it] p) [] (wipe σ (own.map (·.2))) H' s' ∧ s'.heap.IsListIter it a i ∧ H' it = none ∧ W i m H' := fun {s' H'} I' nx => by
        obtain ⟨m', hm, w'⟩ := hNx H' nx
        have pin' : ∀ o, s7.heap.get? it = some o → s'.heap.get? it = some o ∧ H' it = none := fun o e =>
          let z := I'.pin (it, o) (List.mem_append_right _ (List.mem_append_right _ (mem_pinsAt (List.mem_singleton.mpr rfl) e)))
          ⟨z.1, z.2.1⟩
        obtain ⟨o, e, z⟩ := st7
        refine ⟨m', hm, i + 1, H', (I'.unpinned (pins := [])).weak (by rw [← hw8, wipe_length]) (fun j v e => ?_), ⟨o, (pin' o e).1, z⟩, (pin' o e).2, w'⟩
        rw [← hw8] at e
        exact (wipe_some e).1
      cases b with
      | false =>
        simp only [Bool.false_eq_true, if_false] at q9 ⊢
        exact fin I9 q9
      | true =>
        simp only [if_true] at q9 ⊢
        refine thnF (pe.run _ s9 σ8 H9 _ I9 q9) fun z s10 ⟨yv, H10, I10, r10, acc, hD10, hz10, nx⟩ => ?_
        exact app_ok (X := blkH X s3 H3 scope ce [it] p) I10 hD10 hz10 r10 fun s11 I11 => fin I11 nx
  exact codeAny_compStart_list loop (self X.A _ _ _ st4 loop)
/-- as a value -/
theorem pe_lcH {elt tg iter : Expr} {ifs : List Expr} {scope : Scope} {own : List (Str × Nat)} {pos : Pos} {tl : TE} {g : TG} {tt : TT} {te : TE} (hc : HotC X) (hN : X.N.Nodup) (hl : PE X iter tl) (ok : BlkOk X.N X.env.scope scope own)
    (hg : ∀ (s : Shared) (H : Hp) (C : Addr) (cl : List (Str × Addr)) (fp : List Addr) (p : Addr × Obj), Hot1 X.A p → PG (blkH X s H scope (compEnvC scope cl C X.env) fp p) tg g)
    (ht : ∀ (s : Shared) (H : Hp) (C : Addr) (cl : List (Str × Addr)) (fp : List Addr) (p : Addr × Obj), Hot1 X.A p → PTs (blkH X s H scope (compEnvC scope cl C X.env) fp p) ifs tt)
    (he : ∀ (s : Shared) (H : Hp) (C : Addr) (cl : List (Str × Addr)) (fp : List Addr) (p : Addr × Obj), Hot1 X.A p → PE (blkH X s H scope (compEnvC scope cl C X.env) fp p) elt te)
    (hs : ∀ x, foldedSetIterable iter X.env x = pure x := by intro _; rfl) :
    PE X (.ListComp elt [⟨tg, iter, ifs, 0⟩] scope pos) (tLc (iList X.K tl) g tt te (own.map (·.2))) := by
  refine ⟨fun pins s σ H Q I h => ?_⟩
  rw [eval_ListComp]
  refine lc_hot hc hN I hl ok hg ht he hs h fun D C s' m H' I' q hn f => ⟨m, hn, fun h'' sb => ?_⟩
  obtain ⟨f0, f1, f2, f3, f4, f5⟩ := f
  exact ⟨.ref D, H', I'.turned (t' := s'.toks) (fun b o hb e => (sb.2 b hb).trans e) f0 f1 f3 f4 f5, rfl, q⟩
/-- name = [..] on one line, the name a local -/
theorem ps_setLcH {i : Nat} {y : Str} {py : Pos} {elt tg iter : Expr} {ifs : List Expr} {scope : Scope} {own : List (Str × Nat)} {pos spos : Pos} {tl : TE} {g : TG} {tt : TT} {te : TE} (hc : HotC X) (hN : X.N.Nodup) (hy : X.N[i]? = some y) (hyl : X.env.scope.names.lookup y = some .local)
    (hsw : swapsWith (.ListComp elt [⟨tg, iter, ifs, 0⟩] scope pos) (some (.Name y py)) spos.line X.env = pure true) (hl : PE X iter tl) (ok : BlkOk X.N X.env.scope scope own)
    (hg : ∀ (s : Shared) (H : Hp) (C : Addr) (cl : List (Str × Addr)) (fp : List Addr) (p : Addr × Obj), Hot1 X.A p → PG (blkH X s H scope (compEnvC scope cl C X.env) fp p) tg g)
    (ht : ∀ (s : Shared) (H : Hp) (C : Addr) (cl : List (Str × Addr)) (fp : List Addr) (p : Addr × Obj), Hot1 X.A p → PTs (blkH X s H scope (compEnvC scope cl C X.env) fp p) ifs tt)
    (he : ∀ (s : Shared) (H : Hp) (C : Addr) (cl : List (Str × Addr)) (fp : List Addr) (p : Addr × Obj), Hot1 X.A p → PE (blkH X s H scope (compEnvC scope cl C X.env) fp p) elt te)
    (hs : ∀ x, foldedSetIterable iter X.env x = pure x := by intro _; rfl) :
    PS X (.Assign [.Name y py] (.ListComp elt [⟨tg, iter, ifs, 0⟩] scope pos) spos) (tAsg (tLc (iList X.K tl) g tt te (own.map (·.2))) (gName i)) := by
  refine ⟨fun pins s σ H D I h => ?_⟩
  rw [exec_Assign_Name_used _ _ _ _ hsw]
  refine wpAny_bind (wpAny_standAt (wpAny_bind ?_))
  have h : tLc (iList X.K tl) g tt te (own.map (·.2)) σ H (fun x H1 => gName i x σ H1 D.nx) := h
  show wpAny _ X.A (do let _ ← comprehension (.ListComp elt [⟨tg, iter, ifs, 0⟩] scope pos) scope X.env (firstIterPos [⟨tg, iter, ifs, 0⟩] pos) (newList []) false (eval iter X.env) (some (assign (.Name y py) X.env))) _ _ s
  refine wpAny_bind (thn (lc_hot (Qf := fun _ s' => SP X pins D .next s') hc hN I hl ok hg ht he hs h fun L C s' m H' I' q hn f => ?_) fun _ s' hq => wpAny_pure (wpAny_pure hq))
  show wpAny _ _ (assign (.Name y py) X.env (.ref L)) _ _ _
  refine wpAny_assign_Name (store_ok2 (v := V.ref L) I' hN hy (.inl hyl) rfl (fun s2 I2 ⟨a, sb, ha⟩ => ?_) (.inr hyl))
  obtain ⟨f0, f1, f2, f3, f4, f5⟩ := f
  have haC : C ≠ a := ha.elim (fun z => by rw [z]; exact f1) fun z => fun e => f4 y a z e.symm
  exact ⟨m, hn.sameBut sb haC, fun h3 sb3 => ⟨_, H', I2.turned (t' := s2.toks) (fun b o hb e => (sb3.2 b hb).trans e) f0 f1 f3 f4 f5, q⟩⟩
end
end UPH

set_option Elab.async false
set_option linter.all false
set_option maxRecDepth 100000
set_option maxHeartbeats 4000000
/-! a def of one argument, called in an except suite with the caught exception, which may have a dict: it knows the class and the dict -/
namespace UPD
open PySem PySem.Spec PyProof.Rows L2 HotX L2H UPH
/-- its own dict, if it has one, stands there -/
def DOk (H : Hp) (d : Option Addr) : Prop := ∀ dx, d = some dx → ∃ fs, H dx = some (.xd fs)
theorem DOk.same {H H' : Hp} {d : Option Addr} (h : DOk H d) (s : ∀ b o, H b = some o → H' b = some o) : DOk H' d := fun dx e => by
  obtain ⟨fs, z⟩ := h dx e
  exact ⟨fs, s _ _ z⟩
theorem dok_none {H : Hp} : DOk H none := fun dx e => by cases e
theorem dok_some {H : Hp} {dx : Addr} {fs : List (Str × V)} (h : H dx = some (.xd fs)) : DOk H (some dx) := fun x e => by
  cases e
  exact ⟨fs, h⟩
theorem DOk.off {H H' : Hp} {d : Option Addr} {l : Addr} {xs : List V} (h : DOk H d) (hl : H l = some (.lst xs)) (k : ∀ b o, b ≠ l → H b = some o → H' b = some o) : DOk H' d := fun dx e => by
  obtain ⟨fs, z⟩ := h dx e
  exact ⟨fs, k _ _ (fun n => by rw [n, hl] at z; cases z) z⟩
theorem inst_pin {X : Cx} {pins : List (Addr × Obj)} {σ : L2.St} {H : Hp} {s : Shared} {a D : Addr} {d : Option Addr} {oe : Obj} (I : Inv X pins σ H s) (hp : (a, oe) ∈ X.pn) (hz : Zc (.ref D) d oe) (hf : ∃ vs, oe.data = .fields vs) (hd : DOk H d) : ∃ od, PySem.W.InstAt s.heap a oe D od := by
  obtain ⟨hget, _⟩ := I.pin (a, oe) (List.mem_append_left _ hp)
  obtain ⟨vs, hv⟩ := hf
  obtain ⟨oc, od, oda, osl⟩ := oe
  obtain ⟨h1, h2⟩ := hz
  dsimp only at h1 h2 hv
  subst h1 h2 hv
  cases od with
  | none => exact ⟨none, hget, rfl, rfl, trivial⟩
  | some dx =>
    obtain ⟨fs, hx⟩ := hd dx rfl
    have y : ObjOk X.prog X.w H s.heap dx (.xd fs) := I.hok dx _ hx
    obtain ⟨mA, ⟨o, es, ep, ho, hr⟩, _⟩ := y
    exact ⟨some o, hget, rfl, rfl, ho⟩
theorem excC_has {K : PySem.W.Frag} {D : Addr} (C : ExcC K D) : (PySem.W.clsIn K D).isSome = true := by
  obtain ⟨cd, hc, _⟩ := PySem.W.any_some C.hd
  rw [hc]
  rfl
section
variable {X : Cx} {e : Expr} {es : List Expr} {ta : TA} {p pos : Pos}
/-- C(e, ..) raised by a def of L2N: the new exception's context is None -/
theorem pmk_oexN {CXT' : CXT} {x : Str} {C fI : Addr} {k : Nat} {fd : FuncData} {ps : List Str} {sp : Sp} {ds : List Value} {dvs : List V} (T : OexC X.K C) (iC : PySem.W.findIn X.K (.ref C) "__init__" = some (some (.ref fI))) (tI : PySem.W.typeIn X.K (.ref fI) = some (.type "function")) (F1 : FnOk X.prog X.w X.K X.mg X.base CXT' k fI fd ps sp) (hr : Room (k + 1) X.A)
    (hb : Binds X.K fd ps ds) (hd : Vals dvs ds) (hx : Passes CXT' X (fun _ _ _ => False)) (hg : Gl X x) (hm : X.mg x = some (.ref C)) (ha : PA X (e :: es) ta) (hdb : (x == ("__debug__" : Str)) = false := by decide) (he : starEach (e :: es) X.env = (false, eval e X.env) :: starEach es X.env := by rfl) (hpl : (backTo pos (starEach es X.env)).any (·.1) = false := by rfl) :
    L2N.PMk X (.Call (.Name x p) (e :: es) [] pos) (tMkO C sp dvs ta) := by
  intro pins s σ H Q I h
  have T0 := T
  obtain ⟨n1, n2, n3, n4, bm, n5, n6, n7, n8, n9, n10, n11, n12, n13, n14, hC, hbm⟩ := T0.cls
  refine wpAny_Call_Name_kw (ld_glob I hg hm ?_ hdb)
  refine PySem.W.callWith_K (h₀ := X.base) I.ok.mod.kin T.kC (thn (ha.run pos pins s σ H _ I h) fun us s1 ⟨vs, H1, I1, r1, hz, q1⟩ => ⟨I1.kIn, ?_⟩) he hpl
  show wpAny _ _ (call (.ref C) us) _ _ _
  obtain ⟨hp, g, dr, tk, os⟩ := s1
  have h01 : hp.objs.size ≤ hp.objs.size + 1 := Nat.le_succ _
  have free : H1 (hp.objs.size + 1) = none := I1.hok.fresh h01
  have hq := q1 (hp.objs.size + 1) free
  have keeps : ∀ b o, hp.get? b = some o → ((hp.push (PySem.W.kdv_tup us)).push (PySem.HandSPX.excO C hp.objs.size)).get? b = some o := fun b o z => Heap.get?_push_of_some _ (Heap.get?_push_of_some _ z)
  have new : ((hp.push (PySem.W.kdv_tup us)).push (PySem.HandSPX.excO C hp.objs.size)).get? (hp.objs.size + 1) = some (PySem.HandSPX.excO C hp.objs.size) := by heap_get
  have I2 := I1.laid (t' := tk) (a := hp.objs.size + 1) (o := exo (hp.objs.size + 1) C none) (h' := (hp.push (PySem.W.kdv_tup us)).push (PySem.HandSPX.excO C hp.objs.size)) keeps h01 (exo_ok new)
  have r2 : Vals (V.ref (hp.objs.size + 1) :: (vs ++ dvs)) (Value.ref (hp.objs.size + 1) :: (us ++ ds)) := .cons rfl (r1.append hd)
  have ln : (Value.ref (hp.objs.size + 1) :: us ++ ds).length = ps.length := (r2.length.symm.trans (F1.len _ _ _ _ hq) : _)
  have few : us.length ≤ sizeLine := by rw [← Paired.length r1, sizeLine_eq]; omega
  refine wpAny_call (PySem.HandSPX.call_own F.excBase_ValueError (fun Y => PySem.HandSPX.refsVE_contains Y bm hbm) (I1.kIn _ _ hC) (PySem.W.looks_findIn I1.kIn iC) (fun self => PySem.W.bind_fn I1.kIn self tI) few
    (codeAny_mono (F1.run _ X.stack _ _ ⟨Value.ref (hp.objs.size + 1) :: us, []⟩ (Value.ref (hp.objs.size + 1) :: (us ++ ds)) _ _ (fun _ _ _ => False) (hr.make C us []) (I2.env0.make C us []) (hb _ (Value.ref (hp.objs.size + 1) :: us) I2.kIn ln) r2 hq) fun r s' hq' => ?_))
  cases r with
  | error er => exact hx pins σ _ _ er s' I2 hq'
  | ok fl =>
    cases fl with
    | next => exact False.elim hq'
    | brk => exact False.elim hq'
    | cont => exact False.elim hq'
    | ret u =>
      obtain ⟨v, H2, os2, bare2, un2, hok2, rv, ev, d, fs, ea, ed, hd1, q2⟩ := hq'
      subst ev
      obtain ⟨h2, g2, d2, t2, os'⟩ := s'
      obtain ⟨t0, G, J, kG, ge, hoe, na⟩ := mk_end0 (d2 := d2) (t2 := t2) I1 h01 keeps un2 hok2 os2 bare2 ea ed hd1
      exact ⟨rv, hp.objs.size + 1, _, _, ⟨G, g2, d2, t2, os'⟩, _, .ref C, some d, rfl, J, kG, ge, hoe, ⟨rfl, rfl, fun vs z => by cases z; rfl⟩, rfl, rfl, na, rfl, bare2, raises_own T.exC T.tyC, q2⟩
end
/-- the promise: by the class's address -/
abbrev SpE := Addr → Option Addr → Hp → VK → XK → Prop
structure FnE (P : Program) (w : World) (K : PySem.W.Frag) (mg : Str → Option Value) (base : Heap) (CX : CXT) (k : Nat) (f : Addr) (fd : FuncData) (x : Str) (sp : SpE) : Prop where
  run : ∀ (A : Around) (outer : List Env) (s : Shared) (H : Hp) (args : Args) (Q : VK) (E : XK) (p : Addr × Obj) (D : Addr) (d : Option Addr), RoomH k A → Hot1 A p → PinOk outer H s p → Zc (.ref D) d p.2 → Env0 P w K mg base A outer s H → BindsTo s fd args [(x, .ref p.1)] → sp D d H Q E →
    codeAny (model P w) A (.call (.ref f) args) (CR CX outer P w H s Q E) s
theorem fn_ofE {CX : CXT} {P : Program} {w : World} {K : PySem.W.Frag} {mg : Str → Option Value} {base : Heap} {k : Nat} {f : Addr} {name qual x : Str} {params : Arguments} {body : List Stmt} {scope : Scope} {dV kV doc pm cdv ct oc : Value} {an od : Option Addr}
    {osl : Array (Option Value)} {N : List Str} {sp : SpE} (lk : K.lookup f = some ⟨oc, od, .func (PySem.W.fnOf name qual params body scope dV kV doc pm an cdv ct), osl⟩) (hcd : PySem.W.codeIn K cdv qual = true) (S : FnScope N [x] scope)
    (hbody : ∀ (A : Around) (outer : List Env) (s : Shared) (H : Hp) (Q : VK) (E : XK) (p : Addr × Obj) (D : Addr) (d : Option Addr), Hot1 A p → Zc (.ref D) d p.2 → RoomH k (A.deeper (envOfC qual scope s.heap.objs.size f cdv)) → sp D d H Q E →
      ∃ t, PSs (cxH CX P w K mg base N qual scope f cdv A outer s H E p) body t ∧ t { nx := fun _ H' => Q .non H', rt := Q } (L2.start N [.ref p.1]) H) :
    FnE P w K mg base CX (k + 1) f (PySem.W.fnOf name qual params body scope dV kV doc pm an cdv ct) x sp := by
  refine ⟨fun A outer s H args Q E p D d hr hot hpin hz e0 hb hsp => ?_⟩
  have KX : K.In s.heap := e0.mod.kin.keeps fun b o e => (e0.bs b o e).1
  have kinds : ∀ y ∈ [(x, Value.ref p.1)], scope.names.lookup y.1 = some .local ∨ (scope.names.lookup y.1 = some .cell ∧ ((cellsFrom (s.heap.objs.size + 1) scope.names []).lookup y.1).isSome = true) := fun y hy => by
    have : y = (x, Value.ref p.1) := List.mem_singleton.mp hy
    subst this
    exact (S.par x (List.mem_singleton.mpr rfl)).elim .inl fun q => .inr ⟨q, PySem.W.cellsFrom_some _ _ _ (.inl q)⟩
  refine codeAny_call_function hr.depth (KX _ _ lk) rfl S.co S.gen rfl (PySem.W.codeRec_of KX hcd) (hb _ _ _ _ (wpAny_newFunctionEnv_cells S.kind kinds fun env he s1 x1 => ?_))
  subst he
  refine ⟨(e0.mod.nolimit.keeps fun b o e => (e0.bs b o e).1).keeps x1.toInCall.keep, codeAny_func ?_⟩
  obtain ⟨t, ht, hq⟩ := hbody A outer s H Q E p D d hot hz (hr.deeper _) hsp
  have I : Inv (cxH CX P w K mg base N qual scope f cdv A outer s H E p) [] (L2.start N [.ref p.1]) H s1 := inv_startH (us := [.ref p.1]) (ps := [x]) S hpin e0 rfl (.cons rfl .nil) x1
  refine wpAny_mono (ht.run [] s1 _ H _ I hq) (fun fl s' hs => ?_) fun e s' hs => hs
  cases fl with
  | ret u =>
    obtain ⟨v, σ', H', J, rv, q⟩ := hs
    exact ⟨v, H', J.os, J.bare, J.base, J.hok, rv, q⟩
  | next =>
    obtain ⟨σ', H', J, q⟩ := hs
    exact ⟨V.non, H', J.os, J.bare, J.base, J.hok, rfl, q⟩
  | brk =>
    obtain ⟨_, _, _, q⟩ := hs
    exact False.elim q
  | cont =>
    obtain ⟨_, _, _, q⟩ := hs
    exact False.elim q
theorem vals_ref1 {a : Addr} {us : List Value} (r : Vals [V.ref a] us) : us = [.ref a] := by
  cases r with
  | cons rx rr =>
    cases rr
    cases rx
    rfl
section
variable {X : Cx} {CX : CXT} {k : Nat} {f : Addr} {fd : FuncData} {ps : List Str} {sp : SpE} {E : L2.St → XK} {x m : Str} {q pos : Pos} {e : Expr} {t : TA}
/-- the call, the caught exception (at a, its class at D) being the argument -/
def tCallE (a D : Addr) (d : Option Addr) (sp : SpE) (E : L2.St → XK) (t : TA) : TE := fun σ H Q => t σ H fun vs H1 => vs = [.ref a] ∧ sp D d H1 Q (E σ)
theorem pe_callE {a D : Addr} {d : Option Addr} {oe : Obj} (F : FnE X.prog X.w X.K X.mg X.base CX k f fd m sp) (hr : RoomH k X.A) (hot : Hot1 X.A (a, oe)) (hp : (a, oe) ∈ X.pn) (hz : Zc (.ref D) d oe) (hg : Gl X x) (hm : X.mg x = some (.ref f)) (hk : PySem.W.keepIn X.K (.ref f) = true) (hb : Binds X.K fd [m] []) (hx : ∀ σ, PassesAt CX X σ (E σ))
    (ha : PA X [e] t) (hdb : (x == ("__debug__" : Str)) = false := by decide) (he : starEach [e] X.env = (false, eval e X.env) :: starEach [] X.env := by rfl) (hpl : (backTo pos (starEach [] X.env)).any (·.1) = false := by rfl) :
    PE X (.Call (.Name x q) [e] [] pos) (tCallE a D d sp E t) := by
  refine ⟨fun pins s σ H Q I h => ?_⟩
  refine wpAny_Call_Name_kw (ld_glob I hg hm ?_ hdb)
  refine PySem.W.callWith_K (h₀ := X.base) I.ok.mod.kin hk (thn (ha.run pos pins s σ H _ I h) fun us s1 ⟨vs, H1, I1, r, ev, qv⟩ => ⟨I1.kIn, ?_⟩) he hpl
  subst ev
  obtain rfl : us = [.ref a] := vals_ref1 r
  have b := hb s1 [.ref a] I1.kIn rfl
  have P1 := I1.pin (a, oe) (List.mem_append_left _ hp)
  have hpin : PinOk X.stack H1 s1 (a, oe) := ⟨P1.1, P1.2.1, fun hm => (List.mem_cons.mp (I1.stkSub a hm)).elim P1.2.2.1 P1.2.2.2.1, P1.2.2.2.2⟩
  refine wpAny_call (codeAny_mono (F.run X.A X.stack s1 H1 ⟨[.ref a], []⟩ Q (E σ) (a, oe) D d hr hot hpin hz I1.env0 b qv) fun r s' hq => ?_)
  cases r with
  | error e => exact hx σ pins H1 s1 e s' I1 hq
  | ok fl =>
    cases fl with
    | ret u => exact I1.after hq
    | next => exact False.elim hq
    | brk => exact False.elim hq
    | cont => exact False.elim hq
/-- isinstance(e, c), e the pinned exception -/
def rIsE (K : PySem.W.Frag) (D : Addr) (d : Option Addr) (a : Addr) : List V → Hp → VK → Prop := fun xs H Q => ∃ (c : V) (cv : Value) (b : Bool), xs = [.ref a, c] ∧ (∀ u, RelV c u → u = cv) ∧ PySem.W.kitOne K (.ref D) cv = some b ∧ DOk H d ∧ Q (.bl b) H
theorem call_isP {a D : Addr} {d : Option Addr} {oe : Obj} (hp : (a, oe) ∈ X.pn) (C : ExcC X.K D) (hz : Zc (.ref D) d oe) (hf : ∃ vs, oe.data = .fields vs) : CallR X (.builtin "isinstance") (rIsE X.K D d a) := by
  intro pins s σ H xs us Q I r h
  obtain ⟨c, cv, b, rfl, hcv, e, hd, q⟩ := h
  cases r with
  | cons rx rr =>
  cases rr with
  | cons rt rr =>
  cases rr
  cases rx
  have ec := hcv _ rt
  subst ec
  obtain ⟨od, J⟩ := inst_pin I hp hz hf hd
  exact PySem.W.kia_one (PySem.W.kitx_exc (excC_has C) C.hg C.hk C.hs C.ha C.hn C.ht C.hm) I.kIn J e (fun z => nomatch z) fun tk => ⟨.bl b, H, I.kept (t' := tk) fun _ _ z => z, rfl, q⟩
/-- isinstance(e, (C, ..)), a new tuple of classes -/
def rIsET (K : PySem.W.Frag) (D : Addr) (d : Option Addr) (a : Addr) : List V → Hp → VK → Prop := fun xs H Q => ∃ (t : Addr) (cs : List Addr) (b : Bool), xs = [.ref a, .ref t] ∧ H t = some (.tup (cs.map V.ref)) ∧ PySem.W.kitAny K (.ref D) (cs.map Value.ref) = some b ∧ DOk H d ∧ Q (.bl b) H
theorem vals_refs : ∀ (cs : List Addr) {us : List Value}, Vals (cs.map V.ref) us → us = cs.map Value.ref
  | [], us, r => by cases r; rfl
  | c :: t, us, r => by
    cases r with
    | cons rx rr =>
      cases rx
      rw [vals_refs t rr]
      rfl
theorem call_isPT {a D : Addr} {d : Option Addr} {oe : Obj} (hp : (a, oe) ∈ X.pn) (C : ExcC X.K D) (hz : Zc (.ref D) d oe) (hf : ∃ vs, oe.data = .fields vs) : CallR X (.builtin "isinstance") (rIsET X.K D d a) := by
  intro pins s σ H xs us Q I r h
  obtain ⟨t, cs, b, rfl, ht, e, hd, q⟩ := h
  cases r with
  | cons rx rr =>
  cases rr with
  | cons rt rr =>
  cases rr
  cases rx
  cases rt
  obtain ⟨od, J⟩ := inst_pin I hp hz hf hd
  obtain ⟨its, rv, pt, _⟩ := I.tuple (a := t) (xs := cs.map V.ref) (.of ht)
  obtain ⟨o, ho, hc, n, hd⟩ := pt
  have ev := vals_refs cs rv
  obtain ⟨oc, od, oda, osl⟩ := o
  dsimp only at hc hd
  subst hc hd
  refine PySem.W.kia_tup (its := its) (n := n) (PySem.W.kitx_exc (excC_has C) C.hg C.hk C.hs C.ha C.hn C.ht C.hm) I.kIn J ho (by rw [ev]; exact e) (fun z => nomatch z) fun tk => ⟨.bl b, H, I.kept (t' := tk) fun _ _ z => z, rfl, q⟩
end
end UPD

set_option Elab.async false
set_option linter.all false
set_option maxRecDepth 100000
set_option maxHeartbeats 4000000
set_option pp.maxSteps 400
namespace UP
open PySem PySem.Spec PyProof.Rows L2 HotX L2H UPH UPD
section
variable {X : Cx}
/-- a call that may raise, in a def that may -/
theorem pe_callXH {k : Nat} {x : Str} {ps : List Str} {sp : Sp} {W : WX} {p pos : Pos} {e : Expr} {es : List Expr} {t : TA} (G : HasX X.prog X.w X.K X.mg X.base k x ps sp) (tk : L2N.Takes X W) (hr : Room k X.A) (hg : Gl X x) (ha : PA X (e :: es) t)
    (hdb : (x == ("__debug__" : Str)) = false := by decide) (he : starEach (e :: es) X.env = (false, eval e X.env) :: starEach es X.env := by rfl) (hpl : (backTo pos (starEach es X.env)).any (·.1) = false := by rfl) :
    PE X (.Call (.Name x p) (e :: es) [] pos) (tCallS sp (WE W) t) := by
  obtain ⟨f, fd, g, kp, b, F⟩ := G
  exact pe_callS F hr hg g kp b (fun σ => L2N.passAt tk σ) ha hdb he hpl
/-- f(e, ..): either promise -/
def tCallEX (sp1 sp2 : Sp) (E : L2.St → XK) (t : TA) : TE := fun σ H Q => t σ H fun vs H1 => sp1 vs H1 Q E0 ∨ sp2 vs H1 Q (E σ)
theorem pe_callEX {k j : Nat} {x : Str} {ps : List Str} {sp1 sp2 : Sp} {W : WX} {p pos : Pos} {e : Expr} {es : List Expr} {t : TA} (G1 : Has X.prog X.w X.K X.mg X.base j x ps sp1) (G2 : HasX X.prog X.w X.K X.mg X.base k x ps sp2) (tk : L2N.Takes X W) (hr1 : Room j X.A) (hr : Room k X.A) (hg : Gl X x) (ha : PA X (e :: es) t)
    (hdb : (x == ("__debug__" : Str)) = false := by decide) (he : starEach (e :: es) X.env = (false, eval e X.env) :: starEach es X.env := by rfl) (hpl : (backTo pos (starEach es X.env)).any (·.1) = false := by rfl) :
    PE X (.Call (.Name x p) (e :: es) [] pos) (tCallEX sp1 sp2 (WE W) t) := by
  obtain ⟨f, fd, hm, hk, hb, F⟩ := G2
  obtain ⟨f1, fd1, hm1, hk1, hb1, F1⟩ := G1
  obtain rfl : f1 = f := Value.ref.inj (Option.some.inj (hm1.symm.trans hm))
  refine ⟨fun pins s σ H Q I h => ?_⟩
  refine wpAny_Call_Name_kw (ld_glob I hg hm ?_ hdb)
  refine PySem.W.callWith_K (h₀ := X.base) I.ok.mod.kin hk (thn (ha.run pos pins s σ H _ I h) fun us s1 ⟨vs, H1, I1, r, q⟩ => ⟨I1.kIn, ?_⟩) he hpl
  rcases q with q | q
  · exact run_fn (ds := []) (dvs := []) F1 hr1 hb1 .nil pass0 I1 r (by rw [List.append_nil]; exact q)
  · exact run_fnS F hr hb (L2N.passAt tk σ) I1 r q
end
/-! ### the error that keeps an index -/
abbrev s_index : Stmt := inClass (topS 17) 0
theorem sc_index : FnScope ["self", "index"] ["self", "index"] (defScope s_index) := ⟨rfl, rfl, rfl, by decide +kernel, rfl, by decide +kernel, by decide +kernel⟩
structure InvF (K : PySem.W.Frag) (mg : Str → Option Value) (C : Addr) : Prop where
  g : mg "InvalidText" = some (.ref C)
  o : OexC K C
  n : PySem.W.findIn K (.ref C) "index" = some none
  x : XfC K C
  em : PySem.W.exmOne K (.ref C) (.ref C) = some true
  i : ∃ (fI : Addr) (fd : FuncData), PySem.W.findIn K (.ref C) "__init__" = some (some (.ref fI)) ∧ PySem.W.typeIn K (.ref fI) = some (.type "function") ∧ Fun K "__init__" "InvalidText.__init__" s_index fI fd
def sp_index (C : Addr) : Sp := fun vs H Q _ => ∃ (a : Addr) (v : V), vs = [.ref a, v] ∧ H a = some (exo a C none) ∧ ∀ dx, H dx = none → dx ≠ a → Q .non (upd (upd H dx (exd dx [("index", v)])) a (exo a C (some dx)))
theorem inv_end {H : Hp} {ea dx C : Addr} {v : V} (na : H ea = none) (nd : (upd H ea (exo ea C none)) dx = none) (ne : dx ≠ ea) : Same H (upd (del (upd (upd (upd H ea (exo ea C none)) dx (exd dx [("index", v)])) ea (exo ea C (some dx))) ea) dx (.xd [("index", v)])) := fun b o hb => by
  have ba : b ≠ ea := ne_of_none hb na
  have bd : b ≠ dx := fun z => by
    rw [z] at hb
    rw [upd_ne ne, hb] at nd
    cases nd
  rw [upd_ne bd, del_ne ba, upd_ne ba, upd_ne bd, upd_ne ba]
  exact hb
/-! ### what a text says -/
def wrds (z : Str) : List Str := if z = "" then [] else wordsOf z
def dR (r : Run) : Dat := .tup [.str r.1, .int r.2]
def koD : Option Str → Dat
  | none => .non
  | some k => .str k
def enD (e : En) : Dat := .tup [koD e.1, .str (actS e.2)]
inductive Out where
  | err (o : Option Nat)
  | ok (d : Dat)
def ixV : Option Nat → V
  | none => .non
  | some i => .int (i : Nat)
def badI (p : Str → Bool) (ws : List Str) : Option Nat := ws.findIdx? fun w => !p w
def runsZ (z : Str) : List Run := (wrds z).filterMap runO
def seqZ (z : Str) : Out := match badI (fun w => (runO w).isSome) (wrds z) with
  | some i => .err (some i)
  | none => if ((wrds z).all exO && (Dat.lst ((runsZ z).map dR)).seq) = true then .ok (.lst ((runsZ z).map dR)) else .err none
def runD : Option Run → Dat
  | some r => dR r
  | none => .non
def stTail : List Str → Out
  | [w] => if exO w = true then .ok (runD (runO w)) else .err none
  | _ => .err none
def stZ (z : Str) : Out := match badI (fun w => decide (w = "-") || (runO w).isSome) (wrds z) with
  | some i => .err (some i)
  | none => stTail (wrds z)
def recZ (z : Str) : Out := match badI (fun w => (entO w).isSome) (wrds z) with
  | some i => .err (some i)
  | none => if (wrds z).length ≤ 400 then .ok (.lst (((wrds z).filterMap entO).map enD)) else .err none
def outOf (f : Str → Out) : Dat → Out
  | .str z => f z
  | _ => .err none
/-- none of the objects that stood there before -/
def Nw (H : Hp) (u : V) : Prop := ∀ R, H R ≠ none → u ≠ .ref R
theorem nw_ref {H H2 : Hp} {M : Addr} (s : Same H H2) (n : H2 M = none) : Nw H (.ref M) := fun R hR e => by
  cases e
  cases h : H M with
  | none => exact hR h
  | some o => rw [s _ _ h] at n; cases n
theorem nw_str {H : Hp} {z : Str} : Nw H (.str z) := fun R _ e => by cases e
theorem nw_non {H : Hp} : Nw H .non := fun R _ e => by cases e
def OkTxt (d : Dat) : Prop := ∀ z, d = .str z → z.length ≤ 7000 ∧ ∀ w ∈ wrds z, w.length ≤ 600
theorem wrds_len (z : Str) : (wrds z).length ≤ z.length + 1 := by
  unfold wrds
  split
  · exact Nat.zero_le _
  · exact (wordsOf_len z).1
def spX_parse (f : Str → Out) (C : Addr) : Sp := fun vs H Q E => ∃ (v : V) (d : Dat), vs = [v] ∧ Rp H v d ∧ OkTxt d ∧ (∀ x, outOf f d = .ok x → ∀ H' u, Same H H' → Rp H' u x → Nw H u → Q u H') ∧ (∀ o, outOf f d = .err o → ∀ H' dx, Same H H' → H' dx = some (.xd [("index", ixV o)]) → E (.ref C) (some dx) H')
section
variable {P : Program} {w : World} {K : PySem.W.Frag} {mg : Str → Option Value} {base : Heap} {aA : Addr}
theorem ok_index {f C : Addr} {fd : FuncData} (F : Fun K "__init__" "InvalidText.__init__" s_index f fd) (O : OexC K C) (N : PySem.W.findIn K (.ref C) "index" = some none) : FnOk P w K mg base CX0 1 f fd ["self", "index"] (sp_index C) := by
  refine F.ok sc_index (fun vs H Q E h => ?_) (fun cdv A outer s H vs Q E hr h => ?_)
  · obtain ⟨a, v, rfl, _⟩ := h
    rfl
  · obtain ⟨a, v, rfl, ha, q⟩ := h
    refine ⟨_, pss_one (ps_ost (pv 0) (pv 1)), ?_⟩
    exact ⟨_, rfl, _, rfl, a, C, rfl, O, N, .inl ⟨ha, fun dx nd ne => q dx nd ne⟩⟩
/-! words_of: slots 0:text -/
abbrev s_words_of : Stmt := topS 45
theorem sc_words_of : FnScope ["text"] ["text"] (defScope s_words_of) := ⟨rfl, rfl, rfl, by decide +kernel, rfl, by decide +kernel, by decide +kernel⟩
def spX_words_of (C : Addr) : Sp := fun vs H Q E => ∃ (v : V) (d : Dat), vs = [v] ∧ Rp H v d ∧ (∀ z, d = .str z → z.length ≤ 7000 ∧ ∀ H' p, Same H H' → H p = none → H' p = some (.lst ((wrds z).map V.str)) → Q (.ref p) H') ∧ ((∀ z, d ≠ .str z) → ∀ H' dx, Same H H' → H' dx = some (.xd [("index", .non)]) → E (.ref C) (some dx) H')
theorem okX_words_of {C : Addr} (D : Df K mg "words_of" s_words_of) (T : Tx mg) (I1 : InvF K mg C) : HasX P w K mg base 3 "words_of" ["text"] (spX_words_of C) := by
  refine hasX_of D sc_words_of (fun _ _ _ _ _ _ us hl => match us, hl with | [_], _ => rfl) (fun vs H Q E h => ?_) (fun f cdv A outer s H vs Q E hr h => ?_)
  · obtain ⟨_, _, rfl, _⟩ := h
    rfl
  · obtain ⟨v, d, rfl, hv, q, qe⟩ := h
    obtain ⟨fI, fdI, iC, tI, FI⟩ := I1.i
    have F1 := ok_index (P := P) (w := w) (base := base) (mg := mg) FI I1.o I1.n
    have b1 := FI.binds (ps := ["self", "index"]) fun _ _ _ _ _ _ us hl => match us, hl with | [_, _], _ => rfl
    refine ⟨_, (pss_cons (ps_if (pt_not (pt_val (pe_callB call_isi (by rfl) T.n_isinstance (by decide +kernel) (pa_cons (pv 0) (pa_cons (pe_bltn (v := .ty "str") (by rfl) T.n_str (by decide +kernel) rfl) pa_nil))))) (pss_one (L2N.ps_raise rfl (L2N.takes_of rfl rfl rfl rfl) (pmk_oexN I1.o iC tI F1 (hr.mono (by omega)) b1 .nil (fun _ _ _ _ _ _ _ h => h.elim) (by rfl) I1.g (pa_cons pe_non pa_nil)))) pss_nil)
    (pss_one (ps_ret (pe_ifExp (pt_cmpR op_eq (pv 0) pe_str (nomark _)) (pe_lst pa_nil) (pe_split (pv 0) pe_str))))), ?_⟩
    by_cases c : ∃ z, d = .str z
    · obtain ⟨z, rfl⟩ := c
      cases hv
      obtain ⟨lz, q⟩ := q z rfl
      refine ⟨_, rfl, _, _, _, _, true, rfl, .ty "str", .base (.str _), kit_ty (by decide +kernel), true, rfl, iteF ?_⟩
      unfold wrds at q
      by_cases e : z = ""
      · rw [if_pos e] at q
        exact ⟨_, rfl, rfl, _, rfl, iteP (decide_eq_true (congrArg V.str e)) ⟨Nat.zero_le _, fun p np => q _ p (same_upd np) np upd_same⟩⟩
      · rw [if_neg e, ← split_any] at q
        refine ⟨_, rfl, rfl, _, rfl, iteN (decide_eq_false fun x => e (V.str.inj x)) ?_⟩
        refine ⟨_, rfl, ⟨_, rfl⟩, _, _, rfl, rfl, (by decide +kernel), smallE (by omega), fun p np => ?_⟩
        exact q _ p (same_upd np) np upd_same
    · have hn : ∀ z, d ≠ .str z := fun z e => c ⟨z, e⟩
      obtain ⟨t, ht, hk⟩ := kitS (K := K) hv hn
      refine ⟨_, rfl, _, _, _, _, false, rfl, .ty "str", ht, hk, false, rfl, iteT ?_⟩
      refine ⟨(by show 1 ≤ 1000; decide), fun ea na => ⟨ea, .non, rfl, upd_same, fun dx nd ne => ⟨rfl, dx, _, by rw [upd_same], by rw [upd_ne ne, upd_same], (same_upd na).free nd, ?_⟩⟩⟩
      exact qe hn _ dx (inv_end na nd ne) upd_same
theorem flat_bls : ∀ bs : List Bool, (bs.map V.bl).all flatV = true
  | [] => rfl
  | b :: t => by rw [List.map_cons, List.all_cons, flat_bls t]; rfl
theorem inV_bls : ∀ bs : List Bool, inV (.bl false) (bs.map V.bl) = !bs.all id
  | [] => rfl
  | b :: t => by
    have ih := inV_bls t
    unfold inV at ih ⊢
    rw [List.map_cons, List.any_cons, ih]
    cases b <;> rfl
/-! check_forms: slots 0:forms -/
abbrev s_check_forms : Stmt := topS 46
theorem sc_check_forms : FnScope ["forms"] ["forms"] (defScope s_check_forms) := ⟨rfl, rfl, rfl, by decide +kernel, rfl, by decide +kernel, by decide +kernel⟩
def spX_check_forms (C : Addr) : Sp := fun vs H Q E => ∃ (a : Addr) (bs : List Bool), vs = [.ref a] ∧ H a = some (.lst (bs.map V.bl)) ∧ bs.length ≤ 10000 ∧ (bs.all id = true → Q .non H) ∧ (∀ i, bs.findIdx? (! ·) = some i → ∀ H' dx, Same H H' → H' dx = some (.xd [("index", .int (i : Nat))]) → E (.ref C) (some dx) H')
theorem okX_check_forms {C : Addr} (D : Df K mg "check_forms" s_check_forms) (I1 : InvF K mg C) : HasX P w K mg base 3 "check_forms" ["forms"] (spX_check_forms C) := by
  refine hasX_of D sc_check_forms (fun _ _ _ _ _ _ us hl => match us, hl with | [_], _ => rfl) (fun vs H Q E h => ?_) (fun f cdv A outer s H vs Q E hr h => ?_)
  · obtain ⟨_, _, rfl, _⟩ := h
    rfl
  · obtain ⟨a, bs, rfl, ha, l1, q, qe⟩ := h
    obtain ⟨fI, fdI, iC, tI, FI⟩ := I1.i
    have F1 := ok_index (P := P) (w := w) (base := base) (mg := mg) FI I1.o I1.n
    have b1 := FI.binds (ps := ["self", "index"]) fun _ _ _ _ _ _ us hl => match us, hl with | [_, _], _ => rfl
    refine ⟨_, (pss_one (ps_if (pt_cmpR op_in_seq pe_bl (pv 0) (by with_unfolding_all rfl)) (pss_one (L2N.ps_raise rfl (L2N.takes_of rfl rfl rfl rfl) (pmk_oexN I1.o iC tI F1 (hr.mono (by omega)) b1 .nil (fun _ _ _ _ _ _ _ h => h.elim) (by rfl) I1.g (pa_cons (pe_bm PySem.F.plainAttrs_list PySem.F.slot_list_index PySem.F.type_list_index mt_index (pv 0) (pa_cons pe_bl pa_nil)) pa_nil)))) pss_nil)), ?_⟩
    refine ⟨_, rfl, a, _, rfl, .inl (.of ha), rfl, flat_bls bs, _, rfl, ?_⟩
    rw [if_neg (by decide), inV_bls]
    cases c : bs.all id with
    | true => exact iteF (q c)
    | false =>
      refine iteT ?_
      cases e : bs.findIdx? (! ·) with
      | none =>
        have h := List.findIdx?_eq_none_iff.mp e
        have : bs.all id = true := List.all_eq_true.mpr fun b hb => by
          have := h b hb
          cases b
          · cases this
          · rfl
        rw [this] at c
        cases c
      | some i =>
        obtain ⟨hi, h1, h2⟩ := List.findIdx?_eq_some_iff_getElem.mp e
        have e1 : bs[i] = false := by cases hb : bs[i] with | false => rfl | true => rw [hb] at h1; cases h1
        refine ⟨_, rfl, .inl ⟨rfl, _, SqL.of ha⟩, a, _, .bl false, i, .bl false, rfl, rfl, .of ha, rfl, flat_bls bs, by rw [List.getElem?_map, List.getElem?_eq_getElem hi, e1]; rfl, rfl, fun m z' hm hz' => ?_, ?_⟩
        · rw [List.getElem?_map, List.getElem?_eq_getElem (by omega)] at hz'
          have := h2 m hm
          cases hz'
          show (bs[m] == false) = false
          cases hb : bs[m] with
          | true => rfl
          | false => rw [hb] at this; exact (this rfl).elim
        · refine ⟨(by show 1 ≤ 1000; decide), fun ea na => ⟨ea, .int (i : Nat), rfl, upd_same, fun dx nd ne => ⟨rfl, dx, _, by rw [upd_same], by rw [upd_ne ne, upd_same], (same_upd na).free nd, ?_⟩⟩⟩
          exact qe i e _ dx (inv_end na nd ne) upd_same
/-- the list of what p says of the words -/
theorem find_map (p : Str → Bool) : ∀ ws : List Str, (ws.map p).findIdx? (! ·) = badI p ws := fun ws => by
  unfold badI
  rw [List.findIdx?_map]
  rfl
theorem bad_none {p : Str → Bool} {ws : List Str} (h : (ws.map p).all id = true) : badI p ws = none ∧ ∀ w ∈ ws, p w = true := by
  have : ∀ w ∈ ws, p w = true := fun w hw => by
    have := List.all_eq_true.mp h (p w) (List.mem_map.mpr ⟨w, hw, rfl⟩)
    exact this
  refine ⟨?_, this⟩
  unfold badI
  exact List.findIdx?_eq_none_iff.mpr fun w hw => by rw [this w hw]; rfl
theorem runs_all {ws : List Str} (h : ∀ w ∈ ws, (runO w).isSome = true) : Paired (fun (w : Str) (r : Run) => runO w = some r) ws (ws.filterMap runO) := by
  induction ws with
  | nil => exact .nil
  | cons w t ih =>
    obtain ⟨r, e⟩ := Option.isSome_iff_exists.mp (h w (List.mem_cons_self ..))
    rw [List.filterMap_cons, e]
    exact .cons e (ih fun x hx => h x (List.mem_cons_of_mem _ hx))
theorem ents_all {ws : List Str} (h : ∀ w ∈ ws, (entO w).isSome = true) : Paired (fun (w : Str) (r : En) => entO w = some r) ws (ws.filterMap entO) := by
  induction ws with
  | nil => exact .nil
  | cons w t ih =>
    obtain ⟨r, e⟩ := Option.isSome_iff_exists.mp (h w (List.mem_cons_self ..))
    rw [List.filterMap_cons, e]
    exact .cons e (ih fun x hx => h x (List.mem_cons_of_mem _ hx))
theorem dR_fit {r : Run} (h : kindB r.1 = true) : (dR r).fit2 := fun x y e => by
  cases e
  show r.1.length ≤ 4000
  unfold kindB at h
  rw [Bool.and_eq_true] at h
  have := of_decide_eq_true h.1
  omega
/-- a list of runs as tuples -/
def RnV (H : Hp) (v : V) (r : Run) : Prop := ∃ t, v = .ref t ∧ H t = some (.tup [.str r.1, .int r.2])
theorem RnV.tk {H H' : Hp} (k : ∀ b xs, H b = some (.tup xs) → H' b = some (.tup xs)) {v : V} {r : Run} (h : RnV H v r) : RnV H' v r := by
  obtain ⟨t, e, ht⟩ := h
  exact ⟨t, e, k _ _ ht⟩
theorem RnV.rp {H : Hp} : ∀ {ys : List V} {rs : List Run}, Paired (RnV H) ys rs → Paired (Rp H) ys (rs.map dR)
  | [], [], _ => .nil
  | y :: ys, r :: rs, h => by
    cases h with
    | cons h t =>
      obtain ⟨a, rfl, ha⟩ := h
      exact .cons (.tup ha (.cons (.str _) (.cons (.int _) .nil))) (RnV.rp t)
theorem tk_upd {H : Hp} {M : Addr} {xs ys : List V} (h : H M = some (.lst xs)) : ∀ b zs, H b = some (.tup zs) → (upd H M (.lst ys)) b = some (.tup zs) := fun b zs e => by
  rw [upd_ne (fun z => by rw [z, h] at e; cases e)]
  exact e
/-! parse_sequence: slots 0:text 1:words 2:runs 3:word -/
abbrev s_parse_sequence : Stmt := topS 47
theorem sc_parse_sequence : FnScope ["text", "words", "runs", "word"] ["text"] (defScope s_parse_sequence) := ⟨rfl, rfl, rfl, by decide +kernel, rfl, by decide +kernel, by decide +kernel⟩
theorem okX_parse_sequence {C : Addr} (D : Df K mg "parse_sequence" s_parse_sequence) (T : Tx mg) (I1 : InvF K mg C) (G_words_of : HasX P w K mg base 3 "words_of" ["text"] (spX_words_of C)) (G_check_forms : HasX P w K mg base 3 "check_forms" ["forms"] (spX_check_forms C)) (G_is_run_word : Has P w K mg base 2 "is_run_word" ["word"] sp_is_run_word) (G_run_in : Has P w K mg base 2 "run_in" ["word"] sp_run_in) (G_is_exact : Has P w K mg base 1 "is_exact" ["word"] sp_is_exact)
    (G_is_sequence : Has P w K mg base 4 "is_sequence" ["value"] sp_is_sequence) : HasX P w K mg base 5 "parse_sequence" ["text"] (spX_parse seqZ C) := by
  refine hasX_of D sc_parse_sequence (fun _ _ _ _ _ _ us hl => match us, hl with | [_], _ => rfl) (fun vs H Q E h => ?_) (fun f cdv A outer s H vs Q E hr h => ?_)
  · obtain ⟨_, _, rfl, _⟩ := h
    rfl
  · obtain ⟨v, d, rfl, hv, ok, q, qe⟩ := h
    obtain ⟨fI, fdI, iC, tI, FI⟩ := I1.i
    have F1 := ok_index (P := P) (w := w) (base := base) (mg := mg) FI I1.o I1.n
    have b1 := FI.binds (ps := ["self", "index"]) fun _ _ _ _ _ _ us hl => match us, hl with | [_, _], _ => rfl
    refine ⟨_, (pss_cons (ps_set (i := 1) sc_parse_sequence.nd rfl (by first | exact Or.inl rfl | exact Or.inr rfl) (pe_callXH G_words_of (L2N.takes_of rfl rfl rfl rfl) (hr.mono (by omega)) (by rfl) (pa_cons (pv 0) pa_nil)))
    (pss_cons (ps_expr (pe_callXH G_check_forms (L2N.takes_of rfl rfl rfl rfl) (hr.mono (by omega)) (by rfl) (pa_cons (pe_lc (own := [("word", 3)]) rfl sc_parse_sequence.nd (pi_list (pv 1)) (blkOk_by (N := ["text", "words", "runs", "word"]) (sc := defScope s_parse_sequence) (by decide +kernel)) (fun _ _ _ _ _ => (pg_name (i := 3) sc_parse_sequence.nd rfl (by first | exact Or.inl rfl | exact Or.inr rfl))) (fun _ _ _ _ _ => pts_nil) (fun _ _ _ _ _ => (pe_callH G_is_run_word (hr.mono (by omega)) (by rfl) (pa_cons (pv 3) pa_nil)))) pa_nil)))
    (pss_cons (ps_setLc (i := 2) (own := [("word", 3)]) rfl sc_parse_sequence.nd rfl rfl (sw_true rfl rfl rfl (by decide +kernel)) (pi_list (pv 1)) (blkOk_by (N := ["text", "words", "runs", "word"]) (sc := defScope s_parse_sequence) (by decide +kernel)) (fun _ _ _ _ _ => (pg_name (i := 3) sc_parse_sequence.nd rfl (by first | exact Or.inl rfl | exact Or.inr rfl))) (fun _ _ _ _ _ => pts_nil) (fun _ _ _ _ _ => (pe_callH G_run_in (hr.mono (by omega)) (by rfl) (pa_cons (pv 3) pa_nil))))
    (pss_cons (ps_if (PW.pt (pw_or (pt_not (pt_val (pe_callB (cr_all rfl) (by rfl) T.n_all (by decide +kernel) (pa_cons (pe_lc (own := [("word", 3)]) rfl sc_parse_sequence.nd (pi_list (pv 1)) (blkOk_by (N := ["text", "words", "runs", "word"]) (sc := defScope s_parse_sequence) (by decide +kernel)) (fun _ _ _ _ _ => (pg_name (i := 3) sc_parse_sequence.nd rfl (by first | exact Or.inl rfl | exact Or.inr rfl))) (fun _ _ _ _ _ => pts_nil) (fun _ _ _ _ _ => (pe_callH G_is_exact (hr.mono (by omega)) (by rfl) (pa_cons (pv 3) pa_nil)))) pa_nil)))) (pw_or1 (pt_not (pt_val (pe_callH G_is_sequence (hr.mono (by omega)) (by rfl) (pa_cons (pv 2) pa_nil))))))) (pss_one (L2N.ps_raise rfl (L2N.takes_of rfl rfl rfl rfl) (pmk_oexN I1.o iC tI F1 (hr.mono (by omega)) b1 .nil (fun _ _ _ _ _ _ _ h => h.elim) (by rfl) I1.g (pa_cons pe_non pa_nil)))) pss_nil)
    (pss_one (ps_ret (pv 2))))))), ?_⟩
    refine ⟨_, rfl, v, d, rfl, hv, fun z ed => ⟨(ok z ed).1, fun H1 p s1 np hp => ?_⟩, fun hn H1 dx s1 hd => ?_⟩
    case refine_2 =>
      refine qe none ?_ _ dx s1 hd
      cases d with
      | str z => exact absurd rfl (hn z)
      | _ => rfl
    subst ed
    obtain ⟨lz, lw⟩ := ok z rfl
    have nw := wrds_len z
    have q : ∀ x, seqZ z = .ok x → ∀ H' u, Same H H' → Rp H' u x → Nw H u → Q u H' := q
    have qe : ∀ o, seqZ z = .err o → ∀ H' dx, Same H H' → H' dx = some (.xd [("index", ixV o)]) → E (.ref C) (some dx) H' := qe
    unfold seqZ runsZ at q qe
    generalize wrds z = ws at *
    have hw : ∀ (i : Nat) (x : V), (ws.map V.str)[i]? = some x → ∃ k, ws[i]? = some k ∧ x = .str k := fun i x h => by
      rw [List.getElem?_map] at h
      cases e : ws[i]? with
      | none => rw [e] at h; cases h
      | some k => rw [e] at h; cases h; exact ⟨k, rfl, rfl⟩
    refine ⟨_, rfl, p, rfl, ⟨_, .of hp⟩, fun L nL => lc_list (K := K) (a := p) (xs := ws.map V.str) (fun i H' => Same H1 H' ∧ H' L = some (.lst (((ws.take i).map fun w => (runO w).isSome).map V.bl))) ⟨same_upd nL, upd_same⟩ (fun i H' _ P => .of (P.1 _ _ hp)) (fun i x H2 ex P => ?_) (fun H2 P => ?_)⟩
    · obtain ⟨sm, hL⟩ := P
      obtain ⟨k, ek, rfl⟩ := hw i x ex
      have mk := List.mem_of_getElem? ek
      have hi := (List.getElem?_eq_some_iff.mp ek).1
      refine ⟨rfl, yesT ⟨_, rfl, k, rfl, by have := lw k mk; omega, fun H3 s3 => ⟨_, s3 _ _ hL, small (by simp only [List.length_map, List.length_take]; omega), same_grow nL (sm.trans s3), ?_⟩⟩⟩
      rw [upd_same, take_snoc ek, List.map_append, List.map_append]
      rfl
    obtain ⟨sm, hL⟩ := P
    rw [List.length_map, List.take_length] at hL
    refine ⟨L, _, rfl, hL, by rw [List.length_map]; omega, fun al => ?_, fun i ei H3 dx s3 hd => ?_⟩
    case refine_2 =>
      rw [find_map] at ei
      rw [ei] at qe
      exact qe (some i) rfl _ dx ((s1.trans sm).trans s3) hd
    obtain ⟨bn, all⟩ := bad_none al
    rw [bn] at q qe
    have s2 := s1.trans sm
    have hp2 := sm _ _ hp
    have hrs := runs_all all
    generalize ws.filterMap runO = rs at *
    have lrs := Paired.len hrs
    refine ⟨_, rfl, p, rfl, ⟨_, .of hp2⟩, fun M nM => lc_list (K := K) (a := p) (xs := ws.map V.str) (fun i H' => Same H2 H' ∧ ∃ ys, H' M = some (.lst ys) ∧ Paired (RnV H') ys (rs.take i)) ⟨same_upd nM, [], upd_same, .nil⟩ (fun i H' _ P => .of (P.1 _ _ hp2)) (fun i x H3 ex P => ?_) (fun H3 P => ?_)⟩
    · obtain ⟨sm3, ys, hM, hy⟩ := P
      obtain ⟨k, ek, rfl⟩ := hw i x ex
      obtain ⟨r, er, hr1⟩ := Paired.at hrs ek
      have mk := List.mem_of_getElem? ek
      have hi := (List.getElem?_eq_some_iff.mp ek).1
      have ly := Paired.len hy
      rw [List.length_take] at ly
      refine ⟨rfl, yesT ⟨_, rfl, k, r, rfl, lw k mk, hr1, fun H4 t s4 nt ht => ⟨_, s4 _ _ hM, small (by omega), same_grow nM (sm3.trans s4), ys ++ [.ref t], upd_same, ?_⟩⟩⟩
      rw [take_snoc er]
      have hM4 := s4 _ _ hM
      exact Paired.app (Paired.imp (fun _ _ h => h.tk fun b xs e => tk_upd hM4 b xs (s4 _ _ e)) hy) (.cons ⟨t, rfl, tk_upd hM4 _ _ ht⟩ .nil)
    obtain ⟨sm3, ys, hM, hy⟩ := P
    rw [List.length_map, lrs, List.take_length] at hy
    have s3 := s2.trans sm3
    have hp3 := sm3 _ _ hp2
    refine ⟨_, rfl, p, rfl, ⟨_, .of hp3⟩, fun N nN => lc_list (K := K) (a := p) (xs := ws.map V.str) (fun i H' => Same H3 H' ∧ H' N = some (.lst (((ws.take i).map exO).map V.bl))) ⟨same_upd nN, upd_same⟩ (fun i H' _ P => .of (P.1 _ _ hp3)) (fun i x H4 ex P => ?_) (fun H4 P => ?_)⟩
    · obtain ⟨sm, hL⟩ := P
      obtain ⟨k, ek, rfl⟩ := hw i x ex
      have mk := List.mem_of_getElem? ek
      have hi := (List.getElem?_eq_some_iff.mp ek).1
      refine ⟨rfl, yesT ⟨_, rfl, k, rfl, by have := lw k mk; omega, .inl (all k mk), fun H3 s3 => ⟨_, s3 _ _ hL, small (by simp only [List.length_map, List.length_take]; omega), same_grow nN (sm.trans s3), ?_⟩⟩⟩
      rw [upd_same, take_snoc ek, List.map_append, List.map_append]
      rfl
    obtain ⟨sm4, hN⟩ := P
    rw [List.length_map, List.take_length] at hN
    refine ⟨N, _, rfl, .of hN, _, rfl, ?_⟩
    have s4 := s3.trans sm4
    have raise : ∀ {H5 : Hp}, Same H H5 → (ws.all exO && (Dat.lst (rs.map dR)).seq) = false → ∀ ea, H5 ea = none → sp_index C [.ref ea, .non] (upd H5 ea (exo ea C none)) (fun v H2 => v = .non ∧ ∃ (d : Addr) (fs : List (Str × V)), H2 ea = some (exo ea C (some d)) ∧ H2 d = some (exd d fs) ∧ H5 d = none ∧ E (.ref C) (some d) (upd (del H2 ea) d (.xd fs))) (fun _ _ _ => False) := fun {H5} s5 hb ea na =>
      ⟨ea, .non, rfl, upd_same, fun dx nd ne => ⟨rfl, dx, _, by rw [upd_same], by rw [upd_ne ne, upd_same], (same_upd na).free nd, qe none (by rw [hb]; rfl) _ dx (s5.trans (inv_end na nd ne)) upd_same⟩⟩
    have ea : ((ws.map exO).all id) = ws.all exO := by rw [List.all_map]; rfl
    rw [ea]
    cases ce : ws.all exO with
    | false =>
      exact iteP rfl ⟨(by show 1 ≤ 1000; decide), raise s4 (by rw [ce]; rfl)⟩
    | true =>
      refine iteN rfl ?_
      have hR : Rp H4 (.ref M) (.lst (rs.map dR)) := .lst (sm4 _ _ hM) (RnV.rp (Paired.imp (fun _ _ h => h.tk fun b xs e => sm4 _ _ e) hy))
      have kb : ∀ r ∈ rs, kindB r.1 = true := fun r hr => by
        obtain ⟨i, hi⟩ := List.mem_iff_getElem?.mp hr
        obtain ⟨w, _, h⟩ := Paired.at' hrs hi
        exact (run_kind h).1
      refine ⟨_, rfl, .ref M, .lst (rs.map dR), rfl, hR, fun l e => ?_, fun H5 s5 => ⟨_, rfl, ?_⟩⟩
      · cases e
        refine ⟨by rw [List.length_map]; omega, fun x hx => ?_⟩
        obtain ⟨r, hr, rfl⟩ := List.mem_map.mp hx
        exact dR_fit (kb r hr)
      · cases cs : (Dat.lst (rs.map dR)).seq with
        | false => exact iteP rfl ⟨(by show 1 ≤ 1000; decide), raise (s4.trans s5) (by rw [ce, cs]; rfl)⟩
        | true => exact iteN rfl ⟨_, rfl, q _ (by rw [ce, cs]; rfl) _ _ (s4.trans s5) (hR.same s5) (nw_ref s2 nM)⟩
end
end UP

set_option Elab.async false
set_option linter.all false
set_option maxRecDepth 100000
set_option maxHeartbeats 4000000
set_option pp.maxSteps 400
namespace UP
open PySem PySem.Spec PyProof.Rows L2 HotX L2H UPH UPD
theorem words_one {z w : Str} (h : wrds z = [w]) : z = w := by
  unfold wrds at h
  split at h
  · cases h
  · have e := join_words z
    rw [h] at e
    rw [← e]
    refine TL.ext_tl ?_
    rw [TL.join_eq, TL.tl_join]
    rfl
theorem hyp_none : runO "-" = none := by decide +kernel
def EnR (H : Hp) (v : V) (e : En) : Prop := ∃ t, v = .ref t ∧ H t = some (.tup [koV e.1, .str (actS e.2)])
theorem EnR.tk {H H' : Hp} (k : ∀ b xs, H b = some (.tup xs) → H' b = some (.tup xs)) {v : V} {r : En} (h : EnR H v r) : EnR H' v r := by
  obtain ⟨t, e, ht⟩ := h
  exact ⟨t, e, k _ _ ht⟩
theorem EnR.rp {H : Hp} : ∀ {ys : List V} {es : List En}, Paired (EnR H) ys es → Paired (Rp H) ys (es.map enD)
  | [], [], _ => .nil
  | y :: ys, (k, b) :: es, h => by
    cases h with
    | cons h t =>
      obtain ⟨a, rfl, ha⟩ := h
      refine .cons (.tup ha (.cons ?_ (.cons (.str _) .nil))) (EnR.rp t)
      cases k with
      | none => exact .non
      | some k => exact .str k
theorem ent_ok {w : Str} {e : En} (h : entO w = some e) : (enD e).entry = true ∧ (enD e).fit2 := by
  rcases ent_cases w with ⟨_, e0⟩ | ⟨a, c, _, _, e0⟩
  · rw [e0] at h; cases h
  rw [e0] at h
  have act : ∀ b : Bool, (Dat.str (actS b)).act = true := fun b => by cases b <;> decide +kernel
  split at h
  · split at h
    · cases h
      refine ⟨?_, fun x y z => ?_⟩
      · show ((Dat.non.none0 || Dat.non.kind) && (Dat.str (actS _)).act) = true
        rw [act]
        rfl
      · cases z
        exact True.intro
    · split at h
      · rename_i kb
        cases h
        refine ⟨?_, fun x y z => ?_⟩
        · show (((Dat.str a).none0 || kindB a) && (Dat.str (actS _)).act) = true
          rw [act, kb, Bool.or_true]
          rfl
        · cases z
          show a.length ≤ 4000
          unfold kindB at kb
          rw [Bool.and_eq_true] at kb
          have := of_decide_eq_true kb.1
          omega
      · cases h
  · cases h
theorem rec_ok {ws : List Str} {es : List En} (h : Paired (fun (w : Str) (e : En) => entO w = some e) ws es) : (Dat.lst (es.map enD)).recd = decide (ws.length ≤ 400) := by
  have l := Paired.len h
  show (decide (((es.map enD).length : Int) ≤ 400) && (es.map enD).all Dat.entry) = _
  have : (es.map enD).all Dat.entry = true := List.all_eq_true.mpr fun x hx => by
    obtain ⟨e, he, rfl⟩ := List.mem_map.mp hx
    obtain ⟨i, hi⟩ := List.mem_iff_getElem?.mp he
    obtain ⟨w, _, hw⟩ := Paired.at' h hi
    exact (ent_ok hw).1
  rw [this, Bool.and_true, List.length_map]
  exact decide_eq_decide.mpr ⟨fun x => by omega, fun x => by omega⟩
section
variable {P : Program} {w : World} {K : PySem.W.Frag} {mg : Str → Option Value} {base : Heap} {aA : Addr}
/-! parse_state: slots 0:text 1:words 2:word -/
abbrev s_parse_state : Stmt := topS 48
theorem sc_parse_state : FnScope ["text", "words", "word"] ["text"] (defScope s_parse_state) := ⟨rfl, rfl, rfl, by decide +kernel, rfl, by decide +kernel, by decide +kernel⟩
theorem okX_parse_state {C : Addr} (D : Df K mg "parse_state" s_parse_state) (T : Tx mg) (I1 : InvF K mg C) (G_words_of : HasX P w K mg base 3 "words_of" ["text"] (spX_words_of C)) (G_check_forms : HasX P w K mg base 3 "check_forms" ["forms"] (spX_check_forms C)) (G_is_run_word : Has P w K mg base 2 "is_run_word" ["word"] sp_is_run_word) (G_run_in : Has P w K mg base 2 "run_in" ["word"] sp_run_in) (G_is_exact : Has P w K mg base 1 "is_exact" ["word"] sp_is_exact) : HasX P w K mg base 5 "parse_state" ["text"] (spX_parse stZ C) := by
  refine hasX_of D sc_parse_state (fun _ _ _ _ _ _ us hl => match us, hl with | [_], _ => rfl) (fun vs H Q E h => ?_) (fun f cdv A outer s H vs Q E hr h => ?_)
  · obtain ⟨_, _, rfl, _⟩ := h
    rfl
  · obtain ⟨v, d, rfl, hv, ok, q, qe⟩ := h
    obtain ⟨fI, fdI, iC, tI, FI⟩ := I1.i
    have F1 := ok_index (P := P) (w := w) (base := base) (mg := mg) FI I1.o I1.n
    have b1 := FI.binds (ps := ["self", "index"]) fun _ _ _ _ _ _ us hl => match us, hl with | [_, _], _ => rfl
    refine ⟨_, (pss_cons (ps_set (i := 1) sc_parse_state.nd rfl (by first | exact Or.inl rfl | exact Or.inr rfl) (pe_callXH G_words_of (L2N.takes_of rfl rfl rfl rfl) (hr.mono (by omega)) (by rfl) (pa_cons (pv 0) pa_nil)))
    (pss_cons (ps_expr (pe_callXH G_check_forms (L2N.takes_of rfl rfl rfl rfl) (hr.mono (by omega)) (by rfl) (pa_cons (pe_lc (own := [("word", 2)]) rfl sc_parse_state.nd (pi_list (pv 1)) (blkOk_by (N := ["text", "words", "word"]) (sc := defScope s_parse_state) (by decide +kernel)) (fun _ _ _ _ _ => (pg_name (i := 2) sc_parse_state.nd rfl (by first | exact Or.inl rfl | exact Or.inr rfl))) (fun _ _ _ _ _ => pts_nil) (fun _ _ _ _ _ => (pe_or (pe_cmpR op_eq (pv 2) pe_str (nomark _)) (pe_one (pe_callH G_is_run_word (hr.mono (by omega)) (by rfl) (pa_cons (pv 2) pa_nil)))))) pa_nil)))
    (pss_cons (ps_if (PW.pt (pw_or (pt_cmpR op_ne (pe_callB call_len_seq (by rfl) T.n_len (by decide +kernel) (pa_cons (pv 1) pa_nil)) pe_int (nomark _)) (pw_or1 (pt_not (pt_val (pe_callH G_is_exact (hr.mono (by omega)) (by rfl) (pa_cons (pe_ix ix_list (pv 1) pe_int (fun _ _ => rfl)) pa_nil))))))) (pss_one (L2N.ps_raise rfl (L2N.takes_of rfl rfl rfl rfl) (pmk_oexN I1.o iC tI F1 (hr.mono (by omega)) b1 .nil (fun _ _ _ _ _ _ _ h => h.elim) (by rfl) I1.g (pa_cons pe_non pa_nil)))) pss_nil)
    (pss_one (ps_ret (pe_ifExp (pt_cmpR op_eq (pv 0) pe_str (nomark _)) pe_non (pe_callH G_run_in (hr.mono (by omega)) (by rfl) (pa_cons (pv 0) pa_nil)))))))), ?_⟩
    refine ⟨_, rfl, v, d, rfl, hv, fun z ed => ⟨(ok z ed).1, fun H1 p s1 np hp => ?_⟩, fun hn H1 dx s1 hd => ?_⟩
    case refine_2 =>
      refine qe none ?_ _ dx s1 hd
      cases d with
      | str z => exact absurd rfl (hn z)
      | _ => rfl
    subst ed
    cases hv
    obtain ⟨lz, lw⟩ := ok z rfl
    have nw := wrds_len z
    have q : ∀ x, stZ z = .ok x → ∀ H' u, Same H H' → Rp H' u x → Nw H u → Q u H' := q
    have qe : ∀ o, stZ z = .err o → ∀ H' dx, Same H H' → H' dx = some (.xd [("index", ixV o)]) → E (.ref C) (some dx) H' := qe
    have one := @words_one z
    unfold stZ at q qe
    generalize wrds z = ws at *
    have hw : ∀ (i : Nat) (x : V), (ws.map V.str)[i]? = some x → ∃ k, ws[i]? = some k ∧ x = .str k := fun i x h => by
      rw [List.getElem?_map] at h
      cases e : ws[i]? with
      | none => rw [e] at h; cases h
      | some k => rw [e] at h; cases h; exact ⟨k, rfl, rfl⟩
    refine ⟨_, rfl, p, rfl, ⟨_, .of hp⟩, fun L nL => lc_list (K := K) (a := p) (xs := ws.map V.str) (fun i H' => Same H1 H' ∧ H' L = some (.lst (((ws.take i).map fun (w : Str) => decide (w = "-") || (runO w).isSome).map V.bl))) ⟨same_upd nL, upd_same⟩ (fun i H' _ P => .of (P.1 _ _ hp)) (fun i x H2 ex P => ?_) (fun H2 P => ?_)⟩
    · obtain ⟨sm, hL⟩ := P
      obtain ⟨k, ek, rfl⟩ := hw i x ex
      have mk := List.mem_of_getElem? ek
      have hi := (List.getElem?_eq_some_iff.mp ek).1
      have lim : (List.map V.bl ((ws.take i).map fun (w : Str) => decide (w = "-") || (runO w).isSome)).length < sizeLine := small (by simp only [List.length_map, List.length_take]; omega)
      refine ⟨rfl, yesT ⟨_, rfl, rfl, _, rfl, ?_⟩⟩
      by_cases c : k = "-"
      · refine iteP (decide_eq_true (congrArg V.str c)) ⟨_, hL, lim, same_grow nL sm, ?_⟩
        rw [upd_same, take_snoc ek, List.map_append, List.map_append, c]
        rfl
      · refine iteN (decide_eq_false fun e => c (V.str.inj e)) ⟨_, rfl, k, rfl, by have := lw k mk; omega, fun H3 s3 => ⟨_, s3 _ _ hL, lim, same_grow nL (sm.trans s3), ?_⟩⟩
        rw [upd_same, take_snoc ek, List.map_append, List.map_append]
        show some (HO.lst (_ ++ [V.bl (runO k).isSome])) = some (HO.lst (_ ++ [V.bl (decide (k = "-") || (runO k).isSome)]))
        rw [decide_eq_false c, Bool.false_or]
    obtain ⟨sm, hL⟩ := P
    rw [List.length_map, List.take_length] at hL
    refine ⟨L, _, rfl, hL, by rw [List.length_map]; omega, fun al => ?_, fun i ei H3 dx s3 hd => ?_⟩
    case refine_2 =>
      rw [find_map] at ei
      rw [ei] at qe
      exact qe (some i) rfl _ dx ((s1.trans sm).trans s3) hd
    obtain ⟨bn, all⟩ := bad_none al
    rw [bn] at q qe
    have s2 := s1.trans sm
    have hp2 := sm _ _ hp
    have raise : ∀ {H5 : Hp}, Same H H5 → stTail ws = Out.err none → ∀ ea, H5 ea = none → sp_index C [.ref ea, .non] (upd H5 ea (exo ea C none)) (fun v H2 => v = .non ∧ ∃ (d : Addr) (fs : List (Str × V)), H2 ea = some (exo ea C (some d)) ∧ H2 d = some (exd d fs) ∧ H5 d = none ∧ E (.ref C) (some d) (upd (del H2 ea) d (.xd fs))) (fun _ _ _ => False) := fun {H5} s5 hb ea na =>
      ⟨ea, .non, rfl, upd_same, fun dx nd ne => ⟨rfl, dx, _, by rw [upd_same], by rw [upd_ne ne, upd_same], (same_upd na).free nd, qe none hb _ dx (s5.trans (inv_end na nd ne)) upd_same⟩⟩
    refine ⟨_, rfl, p, _, rfl, .inl (.of hp2), rfl, _, rfl, ?_⟩
    rcases ws with _ | ⟨a, _ | ⟨b, t⟩⟩
    · exact iteP (by decide) ⟨(by show 1 ≤ 1000; decide), raise s2 rfl⟩
    · obtain rfl := one rfl
      refine iteN rfl ?_
      have ak := all z (List.mem_cons_self ..)
      have cs : (runO z).isSome = true ∨ z = "-" := by
        rcases Bool.or_eq_true_iff.mp ak with h | h
        · exact .inr (of_decide_eq_true h)
        · exact .inl h
      refine ⟨_, rfl, p, _, 0, _, rfl, rfl, .of hp2, rfl, z, rfl, by have := lw z (List.mem_cons_self ..); omega, cs, fun H3 s3 => ⟨_, rfl, ?_⟩⟩
      cases ex : exO z with
      | false => exact iteP rfl ⟨(by show 1 ≤ 1000; decide), raise (s2.trans s3) (by show (if exO z = true then _ else _) = _; rw [ex]; rfl)⟩
      | true =>
        refine iteN rfl ⟨_, rfl, rfl, _, rfl, ?_⟩
        have q := q _ (show (if exO z = true then _ else _) = _ by rw [ex]; rfl)
        by_cases c : z = "-"
        · refine iteP (decide_eq_true (congrArg V.str c)) ?_
          have r0 : runO z = none := by rw [c]; exact hyp_none
          rw [r0] at q
          exact q _ _ (s2.trans s3) .non nw_non
        · refine iteN (decide_eq_false fun e => c (V.str.inj e)) ?_
          obtain ⟨r, er⟩ := Option.isSome_iff_exists.mp (cs.resolve_right c)
          rw [er] at q
          refine ⟨_, rfl, z, r, rfl, lw z (List.mem_cons_self ..), er, fun H4 t s4 nt ht => q _ _ ((s2.trans s3).trans s4) (.tup ht (.cons (.str _) (.cons (.int _) .nil))) (nw_ref (s2.trans s3) nt)⟩
    · refine iteP ?_ ⟨(by show 1 ≤ 1000; decide), raise s2 rfl⟩
      show (!decide (V.int ((((a :: b :: t).map V.str).length : Nat) : Int) = V.int 1)) = true
      rw [decide_eq_false (fun e => by have := V.int.inj e; rw [List.length_map, List.length_cons, List.length_cons] at this; omega)]
      rfl
/-! parse_record: slots 0:text 1:words 2:entries 3:word -/
abbrev s_parse_record : Stmt := topS 49
theorem sc_parse_record : FnScope ["text", "words", "entries", "word"] ["text"] (defScope s_parse_record) := ⟨rfl, rfl, rfl, by decide +kernel, rfl, by decide +kernel, by decide +kernel⟩
theorem okX_parse_record {C : Addr} (D : Df K mg "parse_record" s_parse_record) (T : Tx mg) (I1 : InvF K mg C) (G_words_of : HasX P w K mg base 3 "words_of" ["text"] (spX_words_of C)) (G_check_forms : HasX P w K mg base 3 "check_forms" ["forms"] (spX_check_forms C)) (G_is_entry_word : Has P w K mg base 2 "is_entry_word" ["word"] sp_is_entry_word) (G_entry_in : Has P w K mg base 1 "entry_in" ["word"] sp_entry_in) (G_is_record : Has P w K mg base 3 "is_record" ["value"] sp_is_record) : HasX P w K mg base 5 "parse_record" ["text"] (spX_parse recZ C) := by
  refine hasX_of D sc_parse_record (fun _ _ _ _ _ _ us hl => match us, hl with | [_], _ => rfl) (fun vs H Q E h => ?_) (fun f cdv A outer s H vs Q E hr h => ?_)
  · obtain ⟨_, _, rfl, _⟩ := h
    rfl
  · obtain ⟨v, d, rfl, hv, ok, q, qe⟩ := h
    obtain ⟨fI, fdI, iC, tI, FI⟩ := I1.i
    have F1 := ok_index (P := P) (w := w) (base := base) (mg := mg) FI I1.o I1.n
    have b1 := FI.binds (ps := ["self", "index"]) fun _ _ _ _ _ _ us hl => match us, hl with | [_, _], _ => rfl
    refine ⟨_, (pss_cons (ps_set (i := 1) sc_parse_record.nd rfl (by first | exact Or.inl rfl | exact Or.inr rfl) (pe_callXH G_words_of (L2N.takes_of rfl rfl rfl rfl) (hr.mono (by omega)) (by rfl) (pa_cons (pv 0) pa_nil)))
    (pss_cons (ps_expr (pe_callXH G_check_forms (L2N.takes_of rfl rfl rfl rfl) (hr.mono (by omega)) (by rfl) (pa_cons (pe_lc (own := [("word", 3)]) rfl sc_parse_record.nd (pi_list (pv 1)) (blkOk_by (N := ["text", "words", "entries", "word"]) (sc := defScope s_parse_record) (by decide +kernel)) (fun _ _ _ _ _ => (pg_name (i := 3) sc_parse_record.nd rfl (by first | exact Or.inl rfl | exact Or.inr rfl))) (fun _ _ _ _ _ => pts_nil) (fun _ _ _ _ _ => (pe_callH G_is_entry_word (hr.mono (by omega)) (by rfl) (pa_cons (pv 3) pa_nil)))) pa_nil)))
    (pss_cons (ps_setLc (i := 2) (own := [("word", 3)]) rfl sc_parse_record.nd rfl rfl (sw_true rfl rfl rfl (by decide +kernel)) (pi_list (pv 1)) (blkOk_by (N := ["text", "words", "entries", "word"]) (sc := defScope s_parse_record) (by decide +kernel)) (fun _ _ _ _ _ => (pg_name (i := 3) sc_parse_record.nd rfl (by first | exact Or.inl rfl | exact Or.inr rfl))) (fun _ _ _ _ _ => pts_nil) (fun _ _ _ _ _ => (pe_callH G_entry_in (hr.mono (by omega)) (by rfl) (pa_cons (pv 3) pa_nil))))
    (pss_cons (ps_if (pt_not (pt_val (pe_callH G_is_record (hr.mono (by omega)) (by rfl) (pa_cons (pv 2) pa_nil)))) (pss_one (L2N.ps_raise rfl (L2N.takes_of rfl rfl rfl rfl) (pmk_oexN I1.o iC tI F1 (hr.mono (by omega)) b1 .nil (fun _ _ _ _ _ _ _ h => h.elim) (by rfl) I1.g (pa_cons pe_non pa_nil)))) pss_nil)
    (pss_one (ps_ret (pv 2))))))), ?_⟩
    refine ⟨_, rfl, v, d, rfl, hv, fun z ed => ⟨(ok z ed).1, fun H1 p s1 np hp => ?_⟩, fun hn H1 dx s1 hd => ?_⟩
    case refine_2 =>
      refine qe none ?_ _ dx s1 hd
      cases d with
      | str z => exact absurd rfl (hn z)
      | _ => rfl
    subst ed
    obtain ⟨lz, lw⟩ := ok z rfl
    have nw := wrds_len z
    have q : ∀ x, recZ z = .ok x → ∀ H' u, Same H H' → Rp H' u x → Nw H u → Q u H' := q
    have qe : ∀ o, recZ z = .err o → ∀ H' dx, Same H H' → H' dx = some (.xd [("index", ixV o)]) → E (.ref C) (some dx) H' := qe
    unfold recZ at q qe
    generalize wrds z = ws at *
    have hw : ∀ (i : Nat) (x : V), (ws.map V.str)[i]? = some x → ∃ k, ws[i]? = some k ∧ x = .str k := fun i x h => by
      rw [List.getElem?_map] at h
      cases e : ws[i]? with
      | none => rw [e] at h; cases h
      | some k => rw [e] at h; cases h; exact ⟨k, rfl, rfl⟩
    refine ⟨_, rfl, p, rfl, ⟨_, .of hp⟩, fun L nL => lc_list (K := K) (a := p) (xs := ws.map V.str) (fun i H' => Same H1 H' ∧ H' L = some (.lst (((ws.take i).map fun w => (entO w).isSome).map V.bl))) ⟨same_upd nL, upd_same⟩ (fun i H' _ P => .of (P.1 _ _ hp)) (fun i x H2 ex P => ?_) (fun H2 P => ?_)⟩
    · obtain ⟨sm, hL⟩ := P
      obtain ⟨k, ek, rfl⟩ := hw i x ex
      have mk := List.mem_of_getElem? ek
      have hi := (List.getElem?_eq_some_iff.mp ek).1
      refine ⟨rfl, yesT ⟨_, rfl, k, rfl, by have := lw k mk; omega, fun H3 s3 => ⟨_, s3 _ _ hL, small (by simp only [List.length_map, List.length_take]; omega), same_grow nL (sm.trans s3), ?_⟩⟩⟩
      rw [upd_same, take_snoc ek, List.map_append, List.map_append]
      rfl
    obtain ⟨sm, hL⟩ := P
    rw [List.length_map, List.take_length] at hL
    refine ⟨L, _, rfl, hL, by rw [List.length_map]; omega, fun al => ?_, fun i ei H3 dx s3 hd => ?_⟩
    case refine_2 =>
      rw [find_map] at ei
      rw [ei] at qe
      exact qe (some i) rfl _ dx ((s1.trans sm).trans s3) hd
    obtain ⟨bn, all⟩ := bad_none al
    rw [bn] at q qe
    have s2 := s1.trans sm
    have hp2 := sm _ _ hp
    have hrs := ents_all all
    generalize ws.filterMap entO = rs at *
    have lrs := Paired.len hrs
    refine ⟨_, rfl, p, rfl, ⟨_, .of hp2⟩, fun M nM => lc_list (K := K) (a := p) (xs := ws.map V.str) (fun i H' => Same H2 H' ∧ ∃ ys, H' M = some (.lst ys) ∧ Paired (EnR H') ys (rs.take i)) ⟨same_upd nM, [], upd_same, .nil⟩ (fun i H' _ P => .of (P.1 _ _ hp2)) (fun i x H3 ex P => ?_) (fun H3 P => ?_)⟩
    · obtain ⟨sm3, ys, hM, hy⟩ := P
      obtain ⟨k, ek, rfl⟩ := hw i x ex
      obtain ⟨r, er, hr1⟩ := Paired.at hrs ek
      have mk := List.mem_of_getElem? ek
      have hi := (List.getElem?_eq_some_iff.mp ek).1
      have ly := Paired.len hy
      rw [List.length_take] at ly
      refine ⟨rfl, yesT ⟨_, rfl, k, r, rfl, by have := lw k mk; omega, hr1, fun H4 t s4 nt ht => ⟨_, s4 _ _ hM, small (by omega), same_grow nM (sm3.trans s4), ys ++ [.ref t], upd_same, ?_⟩⟩⟩
      rw [take_snoc er]
      have hM4 := s4 _ _ hM
      exact Paired.app (Paired.imp (fun _ _ h => h.tk fun b xs e => tk_upd hM4 b xs (s4 _ _ e)) hy) (.cons ⟨t, rfl, tk_upd hM4 _ _ ht⟩ .nil)
    obtain ⟨sm3, ys, hM, hy⟩ := P
    rw [List.length_map, lrs, List.take_length] at hy
    have s3 := s2.trans sm3
    have hR : Rp H3 (.ref M) (.lst (rs.map enD)) := .lst hM (EnR.rp hy)
    refine ⟨_, rfl, .ref M, .lst (rs.map enD), rfl, hR, fun l e => ?_, fun H5 s5 => ⟨_, rfl, ?_⟩⟩
    · cases e
      refine ⟨by rw [List.length_map]; omega, fun x hx => ?_⟩
      obtain ⟨r, hr, rfl⟩ := List.mem_map.mp hx
      obtain ⟨i, hi⟩ := List.mem_iff_getElem?.mp hr
      obtain ⟨w, _, h⟩ := Paired.at' hrs hi
      exact (ent_ok h).2
    · rw [rec_ok hrs]
      by_cases c : ws.length ≤ 400
      · rw [decide_eq_true c]
        exact iteN rfl ⟨_, rfl, q _ (if_pos c) _ _ (s3.trans s5) (hR.same s5) (nw_ref s2 nM)⟩
      · rw [decide_eq_false c]
        refine iteP rfl ⟨(by show 1 ≤ 1000; decide), fun ea na => ⟨ea, .non, rfl, upd_same, fun dx nd ne => ⟨rfl, dx, _, by rw [upd_same], by rw [upd_ne ne, upd_same], (same_upd na).free nd, ?_⟩⟩⟩
        exact qe none (if_neg c) _ dx ((s3.trans s5).trans (inv_end na nd ne)) upd_same
end
end UP

set_option Elab.async false
set_option linter.all false
set_option maxRecDepth 100000
set_option maxHeartbeats 4000000
set_option pp.maxSteps 900
namespace UP
open PySem PySem.Spec PyProof.Rows L2 HotX L2H UPH UPD
section
variable {P : Program} {w : World} {K : PySem.W.Frag} {mg : Str → Option Value} {base : Heap}
/-- the def x, called in a suite with the caught exception -/
def HasE (P : Program) (w : World) (K : PySem.W.Frag) (mg : Str → Option Value) (base : Heap) (CX : CXT) (k : Nat) (x y : Str) (sp : SpE) : Prop :=
  ∃ f fd, mg x = some (.ref f) ∧ PySem.W.keepIn K (.ref f) = true ∧ Binds K fd [y] [] ∧ FnE P w K mg base CX k f fd y sp
theorem hasE_of {CX : CXT} {x y : Str} {st : Stmt} {N : List Str} {k : Nat} {sp : SpE} (D : Df K mg x st) (S : FnScope N [y] (defScope st))
    (hb : ∀ (kV doc pm : Value) (an : Option Addr) (cdv ct : Value) (us : List Value), us.length = [y].length → bindArgs (PySem.W.fnOf x x (defArgs st) (defBody st) (defScope st) .none kV doc pm an cdv ct) ⟨us, []⟩ = pure ([y].zip us))
    (body : ∀ (f : Addr) (cdv : Value) (A : Around) (outer : List Env) (s : Shared) (H : Hp) (Q : VK) (E : XK) (p : Addr × Obj) (D : Addr) (d : Option Addr), Hot1 A p → Zc (.ref D) d p.2 → RoomH k (A.deeper (envOfC x (defScope st) s.heap.objs.size f cdv)) → sp D d H Q E →
      ∃ t, PSs (cxH CX P w K mg base N x (defScope st) f cdv A outer s H E p) (defBody st) t ∧ t { nx := fun _ H' => Q .non H', rt := Q } (L2.start N [.ref p.1]) H) :
    HasE P w K mg base CX (k + 1) x y sp := by
  obtain ⟨f, fd, g, F⟩ := D
  have F' := F
  obtain ⟨oc, od, kV, doc, pm, an, cdv, ct, osl, rfl, lk, hcd⟩ := F'.ex
  exact ⟨f, _, g, F.kp, F.binds hb, fn_ofE lk hcd S fun A outer s H Q E p D d h z r q => body f cdv A outer s H Q E p D d h z r q⟩
end
theorem pg_tupHK {X : Cx} {K : PySem.W.Frag} {es : List Expr} {k : Nat} {t : TGs} {n : Nat} {pos : Pos} (h : X.K = K) (hc : HotC X) (hp : PGs X es t)
    (hn : (assignEach es X.env).length = n := by rfl) (hst : (assignEach es X.env).findIdx? (fun z => z.1) = none := by rfl) : PG X (.Tuple es k pos) (gTup K n t) := by
  subst h
  exact pg_tupH hc hp hn hst
def mineL : List Str := ["InvalidText"]
def odd1 : List Str := ["Contradiction", "Impossible", "InvalidCommand", "InvalidCounts"]
def odd2 : List Str := ["InvalidEffects", "InvalidItems", "InvalidKind", "InvalidKinds"]
def odd3 : List Str := ["InvalidNumber", "InvalidPosition", "InvalidRecord", "InvalidSequence"]
def odd4 : List Str := ["InvalidState", "NothingToUndo", "SameEffect", "TooLong"]
def odd5 : List Str := ["TooMany"]
def allL : List Str := mineL ++ (odd1 ++ (odd2 ++ (odd3 ++ (odd4 ++ odd5))))
/-- the classes stand there -/
structure CmgH (mg : Str → Option Value) (CA : Str → Addr) : Prop where
  all : ∀ n, n ∈ allL ++ [("PairError" : Str)] → mg n = some (.ref (CA n))
/-- what the class nm says of itself -/
structure ClsH (K : PySem.W.Frag) (CA : Str → Addr) (nm : Str) : Prop where
  ex : ExcC K (CA nm)
  em : PySem.W.exmOne K (.ref (CA nm)) (.ref (CA "PairError")) = some true
  ki : ∀ n, n ∈ allL → PySem.W.kitOne K (.ref (CA nm)) (.ref (CA n)) = some (decide (n = nm))
  kv : PySem.W.kitOne K (.ref (CA nm)) (.type "ValueError") = some true
section
variable {P : Program} {w : World} {K : PySem.W.Frag} {mg : Str → Option Value} {base : Heap} {CX : CXT}
/-! _law_class: slots 0:caught 1:odd 2:some 3:found 4:word 5:matches -/
abbrev s_law_class : Stmt := topS 55
theorem sc_law_class : FnScope ["caught", "odd", "some", "found", "word", "matches"] ["caught"] (defScope s_law_class) := ⟨rfl, rfl, rfl, by decide +kernel, rfl, by decide +kernel, by decide +kernel⟩
def sp_law_class (K : PySem.W.Frag) (CA : Str → Addr) : SpE := fun D d H Q _ => ∃ nm, D = CA nm ∧ ClsH K CA nm ∧ nm ∈ mineL ∧ DOk H d ∧ ∀ H', Same H H' → Q (.str nm) H'
theorem kit_noneH {CA : Str → Addr} {nm : Str} (C : ClsH K CA nm) (hn : nm ∈ mineL) : ∀ l : List Str, (∀ n ∈ l, n ∈ allL ∧ n ∉ mineL) → PySem.W.kitAny K (.ref (CA nm)) ((l.map CA).map Value.ref) = some false
  | [], _ => rfl
  | n :: t, h => by
    obtain ⟨h1, h2⟩ := h n (List.mem_cons_self ..)
    have e := C.ki n h1
    rw [decide_eq_false (fun z : n = nm => h2 (by rw [z]; exact hn))] at e
    exact kitAny_cons e (fun _ => kit_noneH C hn t fun x hx => h x (List.mem_cons_of_mem _ hx)) (fun z => by cases z)
theorem ok_law_class {CA : Str → Addr} (D : Df K mg "_law_class" s_law_class) (T : Tx mg) (CM : CmgH mg CA) : HasE P w K mg base CX 1 "_law_class" "caught" (sp_law_class K CA) := by
  refine hasE_of D sc_law_class (fun _ _ _ _ _ _ us hl => match us, hl with | [_], _ => rfl) (fun f cdv A outer s₀ H Q E p D1 d1 h1 hz hr h => ?_)
  obtain ⟨nm, rfl, C, hn, dk, q⟩ := h
  have CE := C.ex
  have hot : HotC (cxH CX P w K mg base ["caught", "odd", "some", "found", "word", "matches"] "_law_class" (defScope s_law_class) f cdv A outer s₀ H E p) := ⟨p, h1, List.mem_singleton.mpr rfl⟩
  have hp : (p.1, p.2) ∈ (cxH CX P w K mg base ["caught", "odd", "some", "found", "word", "matches"] "_law_class" (defScope s_law_class) f cdv A outer s₀ H E p).pn := List.mem_singleton.mpr rfl
  have hf : ∃ vs, p.2.data = .fields vs := by
    obtain ⟨_, vs, e, _⟩ := h1
    exact ⟨vs, e⟩
  refine ⟨_, (pss_cons (ps_set (i := 1) sc_law_class.nd rfl (by first | exact Or.inl rfl | exact Or.inr rfl) (pe_not (pe_callB (call_isP hp CE hz hf) (by rfl) T.n_isinstance (by decide +kernel) (pa_cons (pv 0) (pa_cons (pe_bltn (v := .ty "ValueError") (by rfl) T.n_ValueError (by decide +kernel) rfl) pa_nil)))))
    (pss_cons (ps_set (i := 1) sc_law_class.nd rfl (by first | exact Or.inl rfl | exact Or.inr rfl) (pe_or (pv 1) (pe_one (pe_callB (call_isPT hp CE hz hf) (by rfl) T.n_isinstance (by decide +kernel) (pa_cons (pv 0) (pa_cons (pe_tup (pa_cons (pe_glob (v := .ref (CA "Contradiction")) (by rfl) (CM.all "Contradiction" (by decide)) rfl) (pa_cons (pe_glob (v := .ref (CA "Impossible")) (by rfl) (CM.all "Impossible" (by decide)) rfl) (pa_cons (pe_glob (v := .ref (CA "InvalidCommand")) (by rfl) (CM.all "InvalidCommand" (by decide)) rfl) (pa_cons (pe_glob (v := .ref (CA "InvalidCounts")) (by rfl) (CM.all "InvalidCounts" (by decide)) rfl) pa_nil))))) pa_nil))))))
    (pss_cons (ps_set (i := 1) sc_law_class.nd rfl (by first | exact Or.inl rfl | exact Or.inr rfl) (pe_or (pv 1) (pe_one (pe_callB (call_isPT hp CE hz hf) (by rfl) T.n_isinstance (by decide +kernel) (pa_cons (pv 0) (pa_cons (pe_tup (pa_cons (pe_glob (v := .ref (CA "InvalidEffects")) (by rfl) (CM.all "InvalidEffects" (by decide)) rfl) (pa_cons (pe_glob (v := .ref (CA "InvalidItems")) (by rfl) (CM.all "InvalidItems" (by decide)) rfl) (pa_cons (pe_glob (v := .ref (CA "InvalidKind")) (by rfl) (CM.all "InvalidKind" (by decide)) rfl) (pa_cons (pe_glob (v := .ref (CA "InvalidKinds")) (by rfl) (CM.all "InvalidKinds" (by decide)) rfl) pa_nil))))) pa_nil))))))
    (pss_cons (ps_set (i := 1) sc_law_class.nd rfl (by first | exact Or.inl rfl | exact Or.inr rfl) (pe_or (pv 1) (pe_one (pe_callB (call_isPT hp CE hz hf) (by rfl) T.n_isinstance (by decide +kernel) (pa_cons (pv 0) (pa_cons (pe_tup (pa_cons (pe_glob (v := .ref (CA "InvalidNumber")) (by rfl) (CM.all "InvalidNumber" (by decide)) rfl) (pa_cons (pe_glob (v := .ref (CA "InvalidPosition")) (by rfl) (CM.all "InvalidPosition" (by decide)) rfl) (pa_cons (pe_glob (v := .ref (CA "InvalidRecord")) (by rfl) (CM.all "InvalidRecord" (by decide)) rfl) (pa_cons (pe_glob (v := .ref (CA "InvalidSequence")) (by rfl) (CM.all "InvalidSequence" (by decide)) rfl) pa_nil))))) pa_nil))))))
    (pss_cons (ps_set (i := 1) sc_law_class.nd rfl (by first | exact Or.inl rfl | exact Or.inr rfl) (pe_or (pv 1) (pe_one (pe_callB (call_isPT hp CE hz hf) (by rfl) T.n_isinstance (by decide +kernel) (pa_cons (pv 0) (pa_cons (pe_tup (pa_cons (pe_glob (v := .ref (CA "InvalidState")) (by rfl) (CM.all "InvalidState" (by decide)) rfl) (pa_cons (pe_glob (v := .ref (CA "NothingToUndo")) (by rfl) (CM.all "NothingToUndo" (by decide)) rfl) (pa_cons (pe_glob (v := .ref (CA "SameEffect")) (by rfl) (CM.all "SameEffect" (by decide)) rfl) (pa_cons (pe_glob (v := .ref (CA "TooLong")) (by rfl) (CM.all "TooLong" (by decide)) rfl) pa_nil))))) pa_nil))))))
    (pss_cons (ps_set (i := 1) sc_law_class.nd rfl (by first | exact Or.inl rfl | exact Or.inr rfl) (pe_or (pv 1) (pe_one (pe_callB (call_isPT hp CE hz hf) (by rfl) T.n_isinstance (by decide +kernel) (pa_cons (pv 0) (pa_cons (pe_tup (pa_cons (pe_glob (v := .ref (CA "TooMany")) (by rfl) (CM.all "TooMany" (by decide)) rfl) pa_nil)) pa_nil))))))
    (pss_cons (ps_set (i := 2) sc_law_class.nd rfl (by first | exact Or.inl rfl | exact Or.inr rfl) (pe_lst pa_nil))
    (pss_cons (ps_expr (pe_bm PySem.F.plainAttrs_list PySem.F.slot_list_append PySem.F.type_list_append mt_append (pv 2) (pa_cons (pe_tup (pa_cons pe_str (pa_cons (pe_callB (call_isP hp CE hz hf) (by rfl) T.n_isinstance (by decide +kernel) (pa_cons (pv 0) (pa_cons (pe_glob (v := .ref (CA "InvalidText")) (by rfl) (CM.all "InvalidText" (by decide)) rfl) pa_nil))) pa_nil))) pa_nil)))
    (pss_cons (ps_setLcH (i := 3) (own := [("word", 4), ("matches", 5)]) hot sc_law_class.nd rfl rfl (sw_true rfl rfl rfl (by decide +kernel)) (pv 2) (blkOk_by (N := ["caught", "odd", "some", "found", "word", "matches"]) (sc := defScope s_law_class) (by decide +kernel)) (fun _ _ _ _ _ p0 hp0 => (pg_tupHK (K := K) (n := 2) rfl ⟨p0, hp0, List.mem_singleton.mpr rfl⟩ (pgs_cons (pg_name (i := 4) sc_law_class.nd rfl (by first | exact Or.inl rfl | exact Or.inr rfl)) (pgs_cons (pg_name (i := 5) sc_law_class.nd rfl (by first | exact Or.inl rfl | exact Or.inr rfl)) pgs_nil)))) (fun _ _ _ _ _ p0 hp0 => pts_one (pt_val (pv 5))) (fun _ _ _ _ _ p0 hp0 => (pv 4)))
    (pss_one (ps_ret (pe_ifExp (PW.pt (pw_and (pt_cmpR op_eq (pe_callB call_len_seq (by rfl) T.n_len (by decide +kernel) (pa_cons (pv 3) pa_nil)) pe_int (nomark _)) (pw_and1 (pt_not (pt_val (pv 1)))))) (pe_ix ix_list (pv 3) pe_int (fun _ _ => rfl)) pe_str)))))))))))), ?_⟩
  refine ⟨_, rfl, _, _, _, rfl, (fun u r => r), C.kv, dk, true, rfl, ?_⟩
  have kA : ∀ g : List Str, (∀ n ∈ g, n ∈ allL ∧ n ∉ mineL) → PySem.W.kitAny K (.ref (CA nm)) ((g.map CA).map Value.ref) = some false := kit_noneH C hn
  refine ⟨_, rfl, _, rfl, iteF ⟨_, rfl, (by show 4 ≤ sizeLine; decide), fun t1 n1 => ⟨t1, odd1.map CA, false, rfl, upd_same, kA odd1 (by decide +kernel), dk.same (same_upd n1), ?_⟩⟩⟩
  have s1 : Same H (upd H t1 (.tup [.ref (CA "Contradiction"), .ref (CA "Impossible"), .ref (CA "InvalidCommand"), .ref (CA "InvalidCounts")])) := same_upd n1
  have dk := dk.same s1
  generalize upd H t1 (.tup [.ref (CA "Contradiction"), .ref (CA "Impossible"), .ref (CA "InvalidCommand"), .ref (CA "InvalidCounts")]) = H1 at *
  refine ⟨_, rfl, _, rfl, iteF ⟨_, rfl, (by show 4 ≤ sizeLine; decide), fun t2 n2 => ⟨t2, odd2.map CA, false, rfl, upd_same, kA odd2 (by decide +kernel), dk.same (same_upd n2), ?_⟩⟩⟩
  have s2 : Same H1 (upd H1 t2 (.tup [.ref (CA "InvalidEffects"), .ref (CA "InvalidItems"), .ref (CA "InvalidKind"), .ref (CA "InvalidKinds")])) := same_upd n2
  have dk := dk.same s2
  generalize upd H1 t2 (.tup [.ref (CA "InvalidEffects"), .ref (CA "InvalidItems"), .ref (CA "InvalidKind"), .ref (CA "InvalidKinds")]) = H2 at *
  refine ⟨_, rfl, _, rfl, iteF ⟨_, rfl, (by show 4 ≤ sizeLine; decide), fun t3 n3 => ⟨t3, odd3.map CA, false, rfl, upd_same, kA odd3 (by decide +kernel), dk.same (same_upd n3), ?_⟩⟩⟩
  have s3 : Same H2 (upd H2 t3 (.tup [.ref (CA "InvalidNumber"), .ref (CA "InvalidPosition"), .ref (CA "InvalidRecord"), .ref (CA "InvalidSequence")])) := same_upd n3
  have dk := dk.same s3
  generalize upd H2 t3 (.tup [.ref (CA "InvalidNumber"), .ref (CA "InvalidPosition"), .ref (CA "InvalidRecord"), .ref (CA "InvalidSequence")]) = H3 at *
  refine ⟨_, rfl, _, rfl, iteF ⟨_, rfl, (by show 4 ≤ sizeLine; decide), fun t4 n4 => ⟨t4, odd4.map CA, false, rfl, upd_same, kA odd4 (by decide +kernel), dk.same (same_upd n4), ?_⟩⟩⟩
  have s4 : Same H3 (upd H3 t4 (.tup [.ref (CA "InvalidState"), .ref (CA "NothingToUndo"), .ref (CA "SameEffect"), .ref (CA "TooLong")])) := same_upd n4
  have dk := dk.same s4
  generalize upd H3 t4 (.tup [.ref (CA "InvalidState"), .ref (CA "NothingToUndo"), .ref (CA "SameEffect"), .ref (CA "TooLong")]) = H4 at *
  refine ⟨_, rfl, _, rfl, iteF ⟨_, rfl, (by show 1 ≤ sizeLine; decide), fun t5 n5 => ⟨t5, odd5.map CA, false, rfl, upd_same, kA odd5 (by decide +kernel), dk.same (same_upd n5), ?_⟩⟩⟩
  have s5 : Same H4 (upd H4 t5 (.tup [.ref (CA "TooMany")])) := same_upd n5
  have dk := dk.same s5
  generalize upd H4 t5 (.tup [.ref (CA "TooMany")]) = H5 at *
  refine ⟨Nat.zero_le _, fun l nl => ?_⟩
  have sl : Same H5 (upd H5 l (.lst [])) := same_upd nl
  have dk := dk.same sl
  have hl : (upd H5 l (.lst [])) l = some (.lst []) := upd_same
  have nlH : H l = none := ((((s1.trans s2).trans s3).trans s4).trans s5).free nl
  have sA : Same H (upd H5 l (.lst [])) := ((((s1.trans s2).trans s3).trans s4).trans s5).trans sl
  generalize upd H5 l (.lst []) = HA at *
  refine ⟨_, rfl, .inl ⟨rfl, _, SqL.of hl⟩, _, rfl, _, _, _, rfl, (fun u r => r), C.ki "InvalidText" (by decide +kernel), dk, (by show 2 ≤ sizeLine; decide), fun u0 m0 => ?_⟩
  have q0 : Same HA (upd HA u0 (.tup [.str "InvalidText", .bl (decide (("InvalidText" : Str) = nm))])) := same_upd m0
  have dk := dk.same q0
  have e0 : (upd HA u0 (.tup [.str "InvalidText", .bl (decide (("InvalidText" : Str) = nm))])) u0 = some (.tup [.str "InvalidText", .bl (decide (("InvalidText" : Str) = nm))]) := upd_same
  have hl := q0 _ _ hl
  have sA := sA.trans q0
  generalize upd HA u0 (.tup [.str "InvalidText", .bl (decide (("InvalidText" : Str) = nm))]) = HB0 at *
  refine ⟨l, _, _, rfl, rfl, hl, (by show 0 < sizeLine; decide), ?_⟩
  have b0 : But l HB0 (upd HB0 l (.lst ([] ++ [.ref u0]))) := but_upd
  have dk := dk.off hl b0
  have kk : ∀ b xs, HB0 b = some (.tup xs) → (upd HB0 l (.lst ([] ++ [.ref u0]))) b = some (.tup xs) := fun b xs e => b0 _ _ (fun z => by rw [z, hl] at e; cases e) e
  have e0 := kk _ _ e0
  have sA : Same H (upd HB0 l (.lst ([] ++ [.ref u0]))) := fun b o e => b0 _ _ (ne_of_none e nlH) (sA _ _ e)
  have hl : (upd HB0 l (.lst ([] ++ [.ref u0]))) l = some (.lst [.ref u0]) := upd_same
  clear kk b0 q0
  generalize upd HB0 l (.lst ([] ++ [.ref u0])) = HC0 at *
  have vals : ∀ (i : Nat) (x : V), ([.ref u0] : List V)[i]? = some x → ∃ t n, x = .ref t ∧ mineL[i]? = some n ∧ HC0 t = some (.tup [.str n, .bl (decide (n = nm))]) := fun i x h => by
    have hi : i < 1 := (List.getElem?_eq_some_iff.mp h).1
    have e : i = 0 := by omega
    subst e
    cases h
    refine ⟨_, _, rfl, rfl, ?_⟩
    assumption
  refine ⟨_, rfl, l, rfl, ⟨_, .of hl⟩, fun L nL => lc_list (K := K) (a := l) (xs := [.ref u0]) (fun i H' => Same HC0 H' ∧ H' L = some (.lst (((mineL.take i).filter (fun n => decide (n = nm))).map V.str))) ⟨same_upd nL, upd_same⟩ (fun i H' _ hP => .of (hP.1 _ _ hl)) (fun i x H2 ex hP => ?_) (fun H2 hP => ?_)⟩
  · obtain ⟨sm, hL⟩ := hP
    obtain ⟨t, n, rfl, en, ht⟩ := vals i x ex
    have hi : i < 1 := (List.getElem?_eq_some_iff.mp ex).1
    have tk : mineL.take (i + 1) = mineL.take i ++ [n] := take_snoc en
    refine ⟨t, _, rfl, .of (sm _ _ ht), rfl, _, _, rfl, _, _, rfl, rfl, rfl, _, rfl, _, rfl, ?_⟩
    by_cases c : n = nm
    · refine iteP (decide_eq_true c) ⟨_, rfl, _, hL, ?_, same_grow nL sm, ?_⟩
      · rw [List.length_map]
        refine small (Nat.le_trans (List.length_filter_le ..) ?_)
        rw [List.length_take]
        omega
      · rw [upd_same, tk, List.filter_append, show [n].filter (fun n => decide (n = nm)) = [n] by simp [c], List.map_append]
        rfl
    · refine iteN (decide_eq_false c) ⟨sm, ?_⟩
      rw [tk, List.filter_append, show [n].filter (fun n => decide (n = nm)) = [] by simp [c], List.append_nil]
      exact hL
  · obtain ⟨sm, hL⟩ := hP
    have fl : (mineL.take 1).filter (fun n => decide (n = nm)) = [nm] := by
      have : ∀ n ∈ mineL, (mineL.take 1).filter (fun m => decide (m = n)) = [n] := by decide +kernel
      exact this nm hn
    have hL : H2 L = some (.lst (((mineL.take 1).filter (fun n => decide (n = nm))).map V.str)) := hL
    rw [fl] at hL
    refine ⟨_, rfl, L, _, rfl, .inl (.of hL), rfl, _, rfl, iteP rfl ⟨_, rfl, _, rfl, iteP (b := !false) rfl ⟨_, rfl, L, _, 0, _, rfl, rfl, .of hL, rfl, q _ (sA.trans sm)⟩⟩⟩
end
end UP

set_option Elab.async false
set_option linter.all false
set_option maxRecDepth 100000
set_option maxHeartbeats 4000000
set_option pp.maxSteps 600
namespace UP
open PySem PySem.Spec PyProof.Rows L2 HotX L2H UPH UPD
theorem passAt0 {X : Cx} {E : L2.St → XK} : ∀ σ, PassesAt CX0 X σ (E σ) := fun _ _ _ _ _ _ _ h => h.elim
theorem takes0N {X : Cx} : L2N.Takes X (fun _ _ _ _ => False) := fun _ _ x => by
  obtain ⟨_, _, _, _, _, _, _, _, _, _, _, _, _, _, _, _, z⟩ := x
  exact z.elim
/-- f(n) in a suite, by the class -/
def tClsE (i : Nat) (sp : SpE) (a : Addr) (cls : Value) (d : Option Addr) : TE := fun σ H Q => ∃ C, cls = .ref C ∧ tCallE a C d sp (fun _ => E0) (tCons (tVar i) tNil) σ H Q
theorem pe_clsE {X : Cx} {n fn m : Str} {i k : Nat} {nq fq cp : Pos} {sp : SpE} {a : Addr} {oe : Obj} {cls : Value} {d : Option Addr} {pn : List (Addr × Obj)} (G : HasE X.prog X.w X.K X.mg X.base CX0 k fn m sp) (hr : RoomH k X.A)
    (hi : X.N[i]? = some n) (hln : X.env.kindOf n = some .local) (hg : Gl X fn) (hz : L2N.Zn cls d oe) (hv : ∃ vs, oe.data = .fields vs)
    (hfn : (fn == ("__debug__" : Str)) = false := by decide) (hn1 : (n == ("__debug__" : Str)) = false := by decide) (hn2 : (n == ("__classdict__" : Str)) = false := by decide)
    (he : starEach [.Name n nq] (X.suite a ((a, oe) :: pn)).env = (false, eval (.Name n nq) (X.suite a ((a, oe) :: pn)).env) :: starEach [] (X.suite a ((a, oe) :: pn)).env := by rfl) :
    PE (X.suite a ((a, oe) :: pn)) (.Call (.Name fn fq) [.Name n nq] [] cp) (tClsE i sp a cls d) := by
  obtain ⟨f, fd, g, kp, b, F⟩ := G
  refine ⟨fun pins s σ H D I h => ?_⟩
  obtain ⟨C, rfl, h⟩ := h
  obtain ⟨vs, hv⟩ := hv
  have hot : Hot1 (X.suite a ((a, oe) :: pn)).A (a, oe) := ⟨rfl, vs, hv, hz.2.2 vs hv⟩
  have call : PE (X.suite a ((a, oe) :: pn)) (.Call (.Name fn fq) [.Name n nq] [] cp) (tCallE a C d sp (fun _ => E0) (tCons (tVar i) tNil)) :=
    pe_callE (X := X.suite a ((a, oe) :: pn)) F ⟨hr.dp, hr.un⟩ hot List.mem_cons_self hz.zc hg g kp b passAt0 (pa_cons (pe_var (X := X.suite a ((a, oe) :: pn)) hi (.inl hln) hn1 hn2) pa_nil) hfn he
  exact call.run pins s σ H D I h
theorem log_of {n : Nat} (h : n < 2 ^ 1900) : ((n : Nat) : Int).natAbs.log2 < 1920 := by
  rw [Int.natAbs_natCast]
  rcases Nat.eq_zero_or_pos n with e | e
  · rw [e]
    decide +kernel
  · exact Nat.lt_of_lt_of_le ((Nat.log2_lt (by omega)).mpr h) (by decide)
/-- str of None or of a number -/
def oS : Option Nat → Str
  | none => "None"
  | some i => toString (i : Int)
theorem call_strO {X : Cx} : CallR X (.type "str") (fun xs H Q => ∃ o : Option Nat, xs = [ixV o] ∧ (∀ i, o = some i → i < 1000000) ∧ Q (.str (oS o)) H) := by
  intro pins s σ H xs us Q I r h
  obtain ⟨o, rfl, hz, q⟩ := h
  cases o with
  | none =>
    obtain ⟨u, rfl, r1⟩ := vals1 r
    cases r1
    exact PySem.P.str_of_none ⟨.str _, H, I.tok _, ⟨_, rfl⟩, q⟩
  | some i =>
    obtain ⟨u, rfl, t, rfl⟩ := vals1 r
    refine PySem.P.str_of_int ?_ ⟨.str _, H, I.tok _, ⟨_, rfl⟩, q⟩
    have := hz i rfl
    exact log_of (Nat.lt_of_lt_of_le this (by decide +kernel))
/-- the value, or what says where the error is -/
def errS (o : Option Nat) : Str := ("error " : Str) ++ oS o
def outD : Out → Dat
  | .ok x => x
  | .err o => .str (errS o)
def readZ (door : Int) (d : Dat) : Out := outOf (if door = 0 then seqZ else if door = 1 then stZ else recZ) d
theorem findIdx_lt {α : Type} {p : α → Bool} {xs : List α} {i : Nat} (h : xs.findIdx? p = some i) : i < xs.length := by
  rw [List.findIdx?_eq_some_iff_getElem] at h
  exact h.1
theorem seqZ_at {z : Str} {i : Nat} (h : seqZ z = .err (some i)) : i < (wrds z).length := by
  unfold seqZ at h
  split at h
  · rename_i j e
    cases h
    exact findIdx_lt e
  · split at h <;> cases h
theorem stZ_at {z : Str} {i : Nat} (h : stZ z = .err (some i)) : i < (wrds z).length := by
  unfold stZ at h
  split at h
  · rename_i j e
    cases h
    exact findIdx_lt e
  · unfold stTail at h
    split at h
    · split at h <;> cases h
    · cases h
theorem recZ_at {z : Str} {i : Nat} (h : recZ z = .err (some i)) : i < (wrds z).length := by
  unfold recZ at h
  split at h
  · rename_i j e
    cases h
    exact findIdx_lt e
  · split at h <;> cases h
theorem out_at {f : Str → Out} (hf : ∀ z i, f z = .err (some i) → i < (wrds z).length) {d : Dat} (ok : OkTxt d) : ∀ o i, outOf f d = .err o → o = some i → i < 1000000 := fun o i h e => by
  subst e
  cases d with
  | str z =>
    have h1 := hf z i h
    have h2 := (ok z rfl).1
    have := wrds_len z
    omega
  | _ => cases h
/-- what the suite asks -/
def tsRd (C : Addr) (sp : SpE) (a : Addr) (cls : Value) (d : Option Addr) : TS := tAsg (tIf (tTest (tOp rEq (tClsE 3 sp a cls d) (tC (.str "InvalidText")))) (tOp (fun x y H Q => ∃ i j, x = V.str i ∧ y = V.str j ∧ i.length + j.length ≤ sizeLine ∧ Q (V.str (i ++ j)) H) (tC (.str "error ")) (tCB (fun xs H Q => ∃ o : Option Nat, xs = [ixV o] ∧ (∀ i, o = some i → i < 1000000) ∧ Q (.str (oS o)) H) (tCons (tXf a cls d C "index" (tVar 3)) tNil))) (tC (.str "odd"))) (gName 2)
theorem oS_len {o : Option Nat} (h : ∀ i, o = some i → i < 1000000) : (oS o).length ≤ 10 := by
  cases o with
  | none => decide +kernel
  | some i =>
    have := h i rfl
    show (nS (i : Int)).length ≤ 10
    rw [TL.len_tl, tl_nS]
    exact Nat.le_trans (TL.numL_len (k := 7) (by decide) (Nat.lt_of_lt_of_le this (by decide))) (by decide)
theorem errS_le {o : Option Nat} (h : ∀ i, o = some i → i < 1000000) : ("error " : Str).length + (oS o).length ≤ sizeLine := by
  have h1 := oS_len h
  have h2 : ("error " : Str).length = 6 := by decide +kernel
  have h3 := sizeLine_eq
  omega
section
variable {P : Program} {w : World} {K : PySem.W.Frag} {mg : Str → Option Value} {base : Heap}
/-! _law_read: slots 0:door 1:text 2:found 3:caught -/
abbrev s_law_read : Stmt := topS 63
theorem sc_law_read : FnScope ["door", "text", "found", "caught"] ["door", "text"] (defScope s_law_read) := ⟨rfl, rfl, rfl, by decide +kernel, rfl, by decide +kernel, by decide +kernel⟩
def sp_law_read : Sp := fun vs H Q _ => ∃ (door : Int) (v : V) (d : Dat), vs = [.int door, v] ∧ Rp H v d ∧ OkTxt d ∧ (door = 0 ∨ door = 1 ∨ door = 2) ∧ ∀ H' u, Same H H' → Rp H' u (outD (readZ door d)) → Nw H u → Q u H'
theorem ok_law_read {CA : Str → Addr} (D : Df K mg "_law_read" s_law_read) (T : Tx mg) (CM : CmgH mg CA) (C0 : ClsH K CA "InvalidText") (I1 : InvF K mg (CA "InvalidText")) (G_law_class : HasE P w K mg base CX0 1 "_law_class" "caught" (sp_law_class K CA))
    (G_parse_sequence : HasX P w K mg base 5 "parse_sequence" ["text"] (spX_parse seqZ (CA "InvalidText"))) (G_parse_state : HasX P w K mg base 5 "parse_state" ["text"] (spX_parse stZ (CA "InvalidText"))) (G_parse_record : HasX P w K mg base 5 "parse_record" ["text"] (spX_parse recZ (CA "InvalidText"))) :
    Has P w K mg base 6 "_law_read" ["door", "text"] sp_law_read := by
  refine has_of D sc_law_read (fun _ _ _ _ _ _ us hl => match us, hl with | [_, _], _ => rfl) (fun vs H Q E h => ?_) (fun f cdv A outer s₀ H vs Q E hr h => ?_)
  · obtain ⟨_, _, _, rfl, _⟩ := h
    rfl
  · obtain ⟨door, v, d, rfl, hv, ok, hd, q⟩ := h
    refine ⟨_, (pss_cons (ps_set (i := 2) sc_law_read.nd rfl (by first | exact Or.inl rfl | exact Or.inr rfl) pe_str)
    (pss_cons (L2N.ps_try_as (i := 3) rfl rfl sc_law_read.nd rfl rfl ⟨rfl, by decide, .inl (CM.all "PairError" (by decide))⟩ takes0N (fun W pn xe tk _ => (pss_one (ps_if (pt_cmpR op_eq (pv 0) pe_int (nomark _)) (pss_one (ps_set (i := 2) sc_law_read.nd rfl (by first | exact Or.inl rfl | exact Or.inr rfl) (pe_callXH G_parse_sequence tk (hr.mono (by omega)) (by rfl) (pa_cons (pv 1) pa_nil)))) (pss_one (ps_set (i := 2) sc_law_read.nd rfl (by first | exact Or.inl rfl | exact Or.inr rfl) (pe_ifExp (pt_cmpR op_eq (pv 0) pe_int (nomark _)) (pe_callXH G_parse_state tk (hr.mono (by omega)) (by rfl) (pa_cons (pv 1) pa_nil)) (pe_callXH G_parse_record tk (hr.mono (by omega)) (by rfl) (pa_cons (pv 1) pa_nil)))))))) (fun a oe cls d pn hz hf => pss_one (ps_set (i := 2) sc_law_read.nd rfl (by first | exact Or.inl rfl | exact Or.inr rfl) (pe_ifExp (pt_cmpR op_eq (pe_clsE (i := 3) G_law_class (roomH_of (k := 1) (hr.mono (by omega))) rfl rfl (by rfl) hz hf) pe_str (nomark _)) (pe_op op_add_str pe_str (pe_callTy call_strO (by rfl) T.n_str (by decide +kernel) (pa_cons (pe_xf I1.x I1.n hz.zc hf (pv 3)) pa_nil))) pe_str))))
    (pss_one (ps_ret (pv 2))))), ?_⟩
    have fin : ∀ {o : Option Nat} {H1 : Hp} {dx : Addr}, Same H H1 → H1 dx = some (.xd [("index", ixV o)]) → readZ door d = .err o → (∀ i, o = some i → i < 1000000) →
        wAs K (.ref (CA "PairError")) 3 (tsRd (CA "InvalidText") (sp_law_class K CA)) (fun _ _ _ _ => False) { nx := tRet (tVar 2) { nx := fun _ H' => Q .non H', rt := Q }, rt := Q } (.ref (CA "InvalidText")) (some dx) [some (.int door), some v, some (.str "odd"), none] H1 := fun {o H1 dx} s1 hd e small => by
      refine ⟨true, C0.em, fun _ a na => ?_, fun z => by cases z⟩
      refine ⟨_, rfl, _, rfl, rfl, "InvalidText", rfl, C0, by decide +kernel, dok_some hd, fun H2 s2 => ⟨rfl, _, rfl, iteP rfl ?_⟩⟩
      refine ⟨_, rfl, rfl, rfl, dx, _, _, rfl, s2 _ _ hd, rfl, o, rfl, small, _, _, rfl, rfl, ?_, ⟨_, rfl, q _ _ (s1.trans s2) ?_ nw_str⟩⟩
      · exact errS_le small
      · rw [e]
        exact .str _
    rcases hd with rfl | rfl | rfl
    · refine ⟨_, rfl, rfl, _, rfl, iteP rfl ?_⟩
      refine ⟨_, rfl, v, d, rfl, hv, ok, fun x e H1 u s1 r1 nw => ?_, fun o e H1 dx s1 hd => fin s1 hd e fun i => out_at (fun _ _ => seqZ_at) ok o i e⟩
      exact ⟨_, rfl, q _ _ s1 (by show Rp H1 u (outD (outOf seqZ d)); rw [e]; exact r1) nw⟩
    · refine ⟨_, rfl, rfl, _, rfl, iteN rfl ⟨_, rfl, rfl, _, rfl, iteP rfl ?_⟩⟩
      refine ⟨_, rfl, v, d, rfl, hv, ok, fun x e H1 u s1 r1 nw => ?_, fun o e H1 dx s1 hd => fin s1 hd e fun i => out_at (fun _ _ => stZ_at) ok o i e⟩
      exact ⟨_, rfl, q _ _ s1 (by show Rp H1 u (outD (outOf stZ d)); rw [e]; exact r1) nw⟩
    · refine ⟨_, rfl, rfl, _, rfl, iteN rfl ⟨_, rfl, rfl, _, rfl, iteN rfl ?_⟩⟩
      refine ⟨_, rfl, v, d, rfl, hv, ok, fun x e H1 u s1 r1 nw => ?_, fun o e H1 dx s1 hd => fin s1 hd e fun i => out_at (fun _ _ => recZ_at) ok o i e⟩
      exact ⟨_, rfl, q _ _ s1 (by show Rp H1 u (outD (outOf recZ d)); rw [e]; exact r1) nw⟩
end
end UP

set_option Elab.async false
set_option linter.all false
set_option maxRecDepth 100000
set_option maxHeartbeats 4000000
set_option pp.maxSteps 400
namespace UP
open PySem PySem.Spec PyProof.Rows L2
/-- its letters are letters -/
def Chs (z : Str) : Prop := ∀ c ∈ TL.tl z, c < 1114112
def lowB (c : Nat) : Bool := decide (97 ≤ c ∧ c ≤ 122)
theorem az_mem (c : Nat) : decide (c ∈ ("abcdefghijklmnopqrstuvwxyz" : Str).cps.toList) = lowB c := by
  have e : ("abcdefghijklmnopqrstuvwxyz" : Str).cps.toList = [97, 98, 99, 100, 101, 102, 103, 104, 105, 106, 107, 108, 109, 110, 111, 112, 113, 114, 115, 116, 117, 118, 119, 120, 121, 122] := by decide +kernel
  rw [e]
  refine decide_eq_decide.mpr ⟨fun h => ?_, fun h => ?_⟩
  · simp only [List.mem_cons, List.not_mem_nil, or_false] at h
    omega
  · simp only [List.mem_cons, List.not_mem_nil, or_false]
    omega
theorem nine_mem (c : Nat) : decide (c ∈ ("0123456789" : Str).cps.toList) = digC c := by
  have e : ("0123456789" : Str).cps.toList = [48, 49, 50, 51, 52, 53, 54, 55, 56, 57] := by decide +kernel
  rw [e]
  refine decide_eq_decide.mpr ⟨fun h => ?_, fun h => ?_⟩
  · simp only [List.mem_cons, List.not_mem_nil, or_false] at h
    omega
  · simp only [List.mem_cons, List.not_mem_nil, or_false]
    omega
def sgn (c : Nat) : Str := ⟨#[c]⟩
theorem dp_sgs {K : PySem.W.Frag} {H : Hp} : ∀ cs : List Nat, DpAll K H (cs.map fun c => V.str (sgn c)) (cs.map fun c => PyData.str (sgn c))
  | [] => .nil
  | c :: t => .cons (.str _) (dp_sgs t)
theorem shaped_sgs {cs : List Nat} (h : ∀ c ∈ cs, c < 0x110000) : SeqAt.shaped (.list (cs.map fun c => PyData.str (sgn c))) = true := by
  have gen : ∀ cs : List Nat, (∀ c ∈ cs, c < 0x110000) → PyData.canLayAll0 (cs.map fun c => PyData.str (sgn c)) = true ∧ PyData.depthAll (cs.map fun c => PyData.str (sgn c)) = 0 := by
    intro cs
    induction cs with
    | nil =>
      intro _
      exact ⟨by rw [List.map_nil, PyData.canLayAll0], by rw [List.map_nil, PyData.depthAll]⟩
    | cons c t ih =>
      intro h
      obtain ⟨h1, h2⟩ := ih fun x hx => h x (List.mem_cons_of_mem _ hx)
      have hc := h c (List.mem_cons_self ..)
      rw [List.map_cons, PyData.canLayAll0, PyData.depthAll, h1, h2, PyData.canLay0, PyData.depth]
      refine ⟨?_, rfl⟩
      have : PyData.strOk (sgn c) = true := by
        unfold PyData.strOk sgn
        simp [hc]
      rw [this]
      rfl
  obtain ⟨h1, h2⟩ := gen cs h
  unfold SeqAt.shaped
  rw [PyData.canLay0, PyData.depth, h1, h2]
  rfl
theorem eqv_nilD {ds : List PyData} : PyData.eqv (.list ds) (.list []) = ds.isEmpty := by
  rw [PyData.eqv]
  cases ds with
  | nil => rw [PyData.eqvAll]; rfl
  | cons x t => rw [PyData.eqvAll]; rfl
theorem filter_empty (p : Nat → Bool) (l : List Nat) : ((l.filter fun c => !p c).map fun c => PyData.str (sgn c)).isEmpty = l.all p := by
  induction l with
  | nil => rfl
  | cons c t ih =>
    rw [List.filter_cons, List.all_cons]
    cases h : p c with
    | true =>
      show ((t.filter fun c => !p c).map _).isEmpty = _
      rw [ih, Bool.true_and]
    | false => rfl
section
variable {P : Program} {w : World} {K : PySem.W.Frag} {mg : Str → Option Value} {base : Heap}
/-! _law_is_kind: slots 0:word 1:sign -/
abbrev s_law_is_kind : Stmt := topS 56
theorem sc_law_is_kind : FnScope ["word", "sign"] ["word"] (defScope s_law_is_kind) := ⟨rfl, rfl, rfl, by decide +kernel, rfl, by decide +kernel, by decide +kernel⟩
def sp_law_is_kind : Sp := fun vs H Q _ => ∃ z : Str, vs = [.str z] ∧ z.length ≤ 4000 ∧ Chs z ∧ ∀ H', Same H H' → Q (.bl (kindB z)) H'
theorem ok_law_is_kind (D : Df K mg "_law_is_kind" s_law_is_kind) (T : Tx mg) : Has P w K mg base 1 "_law_is_kind" ["word"] sp_law_is_kind := by
  refine has_of D sc_law_is_kind (fun _ _ _ _ _ _ us hl => match us, hl with | [_], _ => rfl) (fun vs H Q E h => ?_) (fun f cdv A outer s H vs Q E hr h => ?_)
  · obtain ⟨z, rfl, _⟩ := h
    rfl
  · obtain ⟨z, rfl, fit, chs, q⟩ := h
    refine ⟨_, (pss_one (ps_ret (pe_and (pe_chain op_le op_le pe_int (pe_callB call_len_str (by rfl) T.n_len (by decide +kernel) (pa_cons (pv 0) pa_nil)) pe_int) (pe_one (pe_cmpR (op_eqD hr.units) (pe_lc (own := [("sign", 1)]) rfl sc_law_is_kind.nd (pi_str (pv 0)) (blkOk_by (N := ["word", "sign"]) (sc := defScope s_law_is_kind) (by decide +kernel)) (fun _ _ _ _ _ => (pg_name (i := 1) sc_law_is_kind.nd rfl (by first | exact Or.inl rfl | exact Or.inr rfl))) (fun _ _ _ _ _ => pts_one (pt_cmpR op_notInS (pv 1) pe_str (by with_unfolding_all rfl))) (fun _ _ _ _ _ => (pv 1))) (pe_lst pa_nil) (nomark _)))))), ?_⟩
    have no : ¬ (1 ≤ (z.length : Int) ∧ (z.length : Int) ≤ 8) → kindB z = false := fun c => by
      unfold kindB
      rw [decide_eq_false c]
      rfl
    refine ⟨_, rfl, z, rfl, smallE (by omega), _, _, rfl, rfl, _, rfl, ?_⟩
    by_cases c1 : (1 : Int) ≤ (z.length : Int)
    · refine iteP (decide_eq_true c1) ⟨_, _, rfl, rfl, _, rfl, ?_⟩
      by_cases c2 : (z.length : Int) ≤ 8
      · refine iteP (decide_eq_true c2) ?_
        refine ⟨_, rfl, z, rfl, fun L nL => lc_gen (n := z.cps.size) (fun i H' => Same H H' ∧ H' L = some (.lst (((z.cps.toList.take i).filter fun c => !lowB c).map fun c => V.str (sgn c)))) ⟨same_upd nL, upd_same⟩ (fun i H' hi _ => hi) (fun H' _ => Nat.le_refl _) (fun i x H1 H2 hi p y => ?_) (fun H' p => ?_)⟩
        · obtain ⟨rfl, c, ec, rfl⟩ := y
          obtain ⟨sm, hL⟩ := p
          have ec' : z.cps.toList[i]? = some c := by
            rw [Array.getElem?_toList]
            exact ec
          have ef : (z.cps.toList.take (i + 1)).filter (fun c => !lowB c) = (z.cps.toList.take i).filter (fun c => !lowB c) ++ [c].filter (fun c => !lowB c) := by rw [take_snoc ec', List.filter_append]
          refine ⟨rfl, _, rfl, c, _, rfl, rfl, _, rfl, ?_⟩
          rw [az_mem]
          cases hc : lowB c with
          | true =>
            refine iteF ⟨sm, ?_⟩
            rw [ef, List.filter_cons, hc]
            show _ = some (HO.lst ((_ ++ []).map _))
            rw [List.append_nil]
            exact hL
          | false =>
            refine iteT ⟨_, rfl, _, hL, ?_, same_grow nL sm, ?_⟩
            · have h1 : ((z.cps.toList.take i).filter fun c => !lowB c).length ≤ (z.cps.toList.take i).length := List.length_filter_le _ _
              have h2 : (z.cps.toList.take i).length ≤ z.cps.toList.length := by rw [List.length_take]; exact Nat.min_le_right _ _
              have h3 : z.cps.toList.length = z.length := Array.length_toList
              rw [List.length_map]
              exact small (by omega)
            · rw [upd_same, ef, List.filter_cons, hc, List.map_append]
              rfl
        · obtain ⟨sm, hL⟩ := p
          rw [List.take_of_length_le (by rw [Array.length_toList]; exact Nat.le_refl _)] at hL
          refine ⟨Nat.zero_le _, fun e ne => ?_⟩
          have se := same_upd (o := .lst []) ne
          refine ⟨.list ((z.cps.toList.filter fun c => !lowB c).map fun c => PyData.str (sgn c)), .list ((([] : List Nat)).map fun c => PyData.str (sgn c)), .lst (.of (se _ _ hL)) (dp_sgs _), .lst (.of upd_same) .nil, shaped_sgs (fun c hc => chs c (List.mem_filter.mp hc).1), shaped_sgs (fun c hc => by cases hc), ?_⟩
          rw [show PyData.eqv (.list ((z.cps.toList.filter fun c => !lowB c).map fun c => PyData.str (sgn c))) (.list ((([] : List Nat)).map fun c => PyData.str (sgn c))) = _ from eqv_nilD, filter_empty lowB]
          have e : z.cps.toList.all lowB = kindB z := by
            show _ = (decide _ && _)
            rw [decide_eq_true ⟨c1, c2⟩]
            rfl
          rw [e]
          exact q _ (sm.trans se)
      · rw [no fun k => c2 k.2] at q
        exact iteN (decide_eq_false c2) (q H (Same.refl H))
    · rw [no fun k => c1 k.1] at q
      exact iteN (decide_eq_false c1) ⟨_, rfl, iteF (q H (Same.refl H))⟩
/-! _law_run: slots 0:word 1:parts 2:sign -/
abbrev s_law_run : Stmt := topS 57
theorem sc_law_run : FnScope ["word", "parts", "sign"] ["word"] (defScope s_law_run) := ⟨rfl, rfl, rfl, by decide +kernel, rfl, by decide +kernel, by decide +kernel⟩
def sp_law_run : Sp := fun vs H Q _ => ∃ z : Str, vs = [.str z] ∧ z.length ≤ 400 ∧ Chs z ∧ (runO z = none → ∀ H', Same H H' → Q .non H') ∧ ∀ r, runO z = some r → ∀ H' t, Same H H' → H t = none → H' t = some (.tup [.str r.1, .int r.2]) → Q (.ref t) H'
theorem prt_len {z a b : Str} (e : prt z = [a, b]) : a.length + b.length + 1 = z.length := by
  obtain ⟨h, _⟩ := part_two e
  rw [h, app_len, app_len]
  have : ("*" : Str).length = 1 := by decide +kernel
  omega
theorem chs_two {z a b : Str} (e : prt z = [a, b]) (h : Chs z) : Chs a ∧ Chs b := by
  obtain ⟨e, _⟩ := part_two e
  refine ⟨fun c hc => h c ?_, fun c hc => h c ?_⟩
  all_goals
    rw [e, TL.tl_append, TL.tl_append]
    simp [hc]
theorem int_text {z : Str} (h : digB z = true) (l : z.length ≤ 400) : PySem.intText? z = some (valI z) := by
  obtain ⟨h1, h2⟩ := dig_all h
  have l2 : z.cps.toList.length ≤ 400 := by
    rw [Array.length_toList]
    exact l
  rw [intText_digits (x := z) h1 h2 (by omega)]
  rfl
theorem call_intD {X : Cx} : CallR X (.type "int") (fun xs H Q => ∃ z : Str, xs = [.str z] ∧ digB z = true ∧ z.length ≤ 400 ∧ Q (.int (valI z)) H) := by
  intro pins s σ H xs us Q I r h
  obtain ⟨z, rfl, dg, l, q⟩ := h
  obtain ⟨u, rfl, ru⟩ := vals1 r
  obtain ⟨t, rfl⟩ := ru
  exact PySem.W.KIN.call_text (int_text dg l) (by omega) ⟨.int _, H, I.tok _, ⟨_, rfl⟩, q⟩
theorem empty_len {z : Str} : z = "" ↔ (TL.tl z).isEmpty = true := ⟨fun e => by rw [e]; decide +kernel, fun e => tl_empty (List.isEmpty_iff.mp e)⟩
theorem ok_law_run (D : Df K mg "_law_run" s_law_run) (T : Tx mg) (G_law_is_kind : Has P w K mg base 1 "_law_is_kind" ["word"] sp_law_is_kind) : Has P w K mg base 2 "_law_run" ["word"] sp_law_run := by
  refine has_of D sc_law_run (fun _ _ _ _ _ _ us hl => match us, hl with | [_], _ => rfl) (fun vs H Q E h => ?_) (fun f cdv A outer s H vs Q E hr h => ?_)
  · obtain ⟨z, rfl, _⟩ := h
    rfl
  · obtain ⟨z, rfl, lz, chs, qn, qs⟩ := h
    refine ⟨_, (pss_cons (ps_set (i := 1) sc_law_run.nd rfl (by first | exact Or.inl rfl | exact Or.inr rfl) (pe_split (pv 0) pe_str))
    (pss_cons (ps_if (PW.pt (pw_or (pt_cmpR op_gt (pe_callB call_len_seq (by rfl) T.n_len (by decide +kernel) (pa_cons (pv 1) pa_nil)) pe_int (nomark _)) (pw_or1 (pt_not (pt_val (pe_callH G_law_is_kind (hr.mono (by omega)) (by rfl) (pa_cons (pe_ix ix_list (pv 1) pe_int (fun _ _ => rfl)) pa_nil))))))) (pss_one (ps_ret pe_non)) pss_nil)
    (pss_cons (ps_if (pt_cmpR op_eq (pe_callB call_len_seq (by rfl) T.n_len (by decide +kernel) (pa_cons (pv 1) pa_nil)) pe_int (nomark _)) (pss_one (ps_ret (pe_tup (pa_cons (pe_ix ix_list (pv 1) pe_int (fun _ _ => rfl)) (pa_cons pe_int pa_nil))))) pss_nil)
    (pss_cons (ps_if (PW.pt (pw_or (pt_cmpR op_eq (pe_ix ix_list (pv 1) pe_int (fun _ _ => rfl)) pe_str (nomark _)) (pw_or1 (pt_cmpR (op_neD hr.units) (pe_lc (own := [("sign", 2)]) rfl sc_law_run.nd (pi_str (pe_ix ix_list (pv 1) pe_int (fun _ _ => rfl))) (blkOk_by (N := ["word", "parts", "sign"]) (sc := defScope s_law_run) (by decide +kernel)) (fun _ _ _ _ _ => (pg_name (i := 2) sc_law_run.nd rfl (by first | exact Or.inl rfl | exact Or.inr rfl))) (fun _ _ _ _ _ => pts_one (pt_cmpR op_notInS (pv 2) pe_str (by with_unfolding_all rfl))) (fun _ _ _ _ _ => (pv 2))) (pe_lst pa_nil) (nomark _))))) (pss_one (ps_ret pe_non)) pss_nil)
    (pss_one (ps_ret (pe_tup (pa_cons (pe_ix ix_list (pv 1) pe_int (fun _ _ => rfl)) (pa_cons (pe_callTy call_intD (by rfl) T.n_int (by decide +kernel) (pa_cons (pe_ix ix_list (pv 1) pe_int (fun _ _ => rfl)) pa_nil)) pa_nil))))))))), ?_⟩
    refine ⟨_, rfl, ⟨_, rfl⟩, _, _, rfl, rfl, (by decide +kernel), smallE (by omega), fun p np => ?_⟩
    have sp1 : Same H (upd H p (.lst ((prt z).map V.str))) := same_upd np
    have hp : (upd H p (.lst ((prt z).map V.str))) p = some (.lst ((prt z).map V.str)) := upd_same
    show tSeq _ _ _ _ (upd H p (.lst ((prt z).map V.str)))
    generalize upd H p (.lst ((prt z).map V.str)) = H1 at *
    cases e : prt z with
    | nil => exact absurd e (prt_ne z)
    | cons a t =>
      rw [e] at hp
      rcases t with _ | ⟨b, _ | ⟨c, r⟩⟩
      · obtain ⟨ez, _⟩ := part_one e
        have er : runO z = if kindB a = true then some ((a, 1) : Run) else none := by
          unfold runO
          rw [e]
        refine ⟨_, rfl, p, _, rfl, .inl (.of hp), _, _, rfl, rfl, _, rfl, ?_⟩
        refine iteN rfl ⟨_, rfl, p, _, 0, _, rfl, rfl, .of hp, rfl, a, rfl, by rw [← ez]; omega, by rw [← ez]; exact chs, fun H2 s2 => ⟨_, rfl, ?_⟩⟩
        have hp := s2 _ _ hp
        cases kb : kindB a with
        | false =>
          rw [kb] at er
          exact iteP rfl (qn er _ (sp1.trans s2))
        | true =>
          rw [kb] at er
          refine iteN rfl ⟨_, rfl, p, _, rfl, .inl (.of hp), rfl, _, rfl, ?_⟩
          refine iteP rfl ⟨_, rfl, p, _, 0, _, rfl, rfl, .of hp, rfl, (by show 2 ≤ sizeLine; decide), fun u nu => ?_⟩
          exact qs _ er _ u ((sp1.trans s2).trans (same_upd nu)) ((sp1.trans s2).free nu) upd_same
      · have lab := prt_len e
        obtain ⟨ca, cb⟩ := chs_two e chs
        have er : runO z = if (kindB a && digB b) = true then some ((a, valI b) : Run) else none := by
          unfold runO
          rw [e]
        refine ⟨_, rfl, p, _, rfl, .inl (.of hp), _, _, rfl, rfl, _, rfl, ?_⟩
        refine iteN rfl ⟨_, rfl, p, _, 0, _, rfl, rfl, .of hp, rfl, a, rfl, by omega, ca, fun H2 s2 => ⟨_, rfl, ?_⟩⟩
        have hp := s2 _ _ hp
        cases kb : kindB a with
        | false =>
          rw [kb] at er
          exact iteP rfl (qn er _ (sp1.trans s2))
        | true =>
          rw [kb, Bool.true_and] at er
          refine iteN rfl ⟨_, rfl, p, _, rfl, .inl (.of hp), rfl, _, rfl, ?_⟩
          refine iteN rfl ⟨_, rfl, p, _, 1, _, rfl, rfl, .of hp, rfl, rfl, _, rfl, ?_⟩
          have s12 := sp1.trans s2
          by_cases be : b = ""
          · have : digB b = false := by rw [be]; decide +kernel
            rw [this] at er
            exact iteP (decide_eq_true (congrArg V.str be)) (iteP rfl (qn er _ s12))
          · refine iteN (decide_eq_false fun x => be (V.str.inj x)) ?_
            have db : digB b = b.cps.toList.all digC := by
              unfold digB
              have : (TL.tl b).isEmpty = false := by
                cases h : (TL.tl b).isEmpty with
                | false => rfl
                | true => exact absurd (empty_len.mpr h) be
              rw [this]
              rfl
            refine ⟨_, rfl, p, _, 1, _, rfl, rfl, .of hp, rfl, b, rfl, fun L nL => lc_gen (n := b.cps.size) (fun i H' => Same H2 H' ∧ H' L = some (.lst (((b.cps.toList.take i).filter fun c => !digC c).map fun c => V.str (sgn c)))) ⟨same_upd nL, upd_same⟩ (fun i H' hi _ => hi) (fun H' _ => Nat.le_refl _) (fun i x H1 H2 hi p y => ?_) (fun H' p => ?_)⟩
            · obtain ⟨rfl, c, ec, rfl⟩ := y
              obtain ⟨sm, hL⟩ := p
              have ec' : b.cps.toList[i]? = some c := by
                rw [Array.getElem?_toList]
                exact ec
              have ef : (b.cps.toList.take (i + 1)).filter (fun c => !digC c) = (b.cps.toList.take i).filter (fun c => !digC c) ++ [c].filter (fun c => !digC c) := by rw [take_snoc ec', List.filter_append]
              refine ⟨rfl, _, rfl, c, _, rfl, rfl, _, rfl, ?_⟩
              rw [nine_mem]
              cases hc : digC c with
              | true =>
                refine iteF ⟨sm, ?_⟩
                rw [ef, List.filter_cons, hc]
                show _ = some (HO.lst ((_ ++ []).map _))
                rw [List.append_nil]
                exact hL
              | false =>
                refine iteT ⟨_, rfl, _, hL, ?_, same_grow nL sm, ?_⟩
                · have h1 : ((b.cps.toList.take i).filter fun c => !digC c).length ≤ (b.cps.toList.take i).length := List.length_filter_le _ _
                  have h2 : (b.cps.toList.take i).length ≤ b.cps.toList.length := by rw [List.length_take]; exact Nat.min_le_right _ _
                  have h3 : b.cps.toList.length = b.length := Array.length_toList
                  rw [List.length_map]
                  exact small (by omega)
                · rw [upd_same, ef, List.filter_cons, hc, List.map_append]
                  rfl
            · obtain ⟨sm, hL⟩ := p
              rw [List.take_of_length_le (by rw [Array.length_toList]; exact Nat.le_refl _)] at hL
              refine ⟨Nat.zero_le _, fun e ne => ?_⟩
              have se := same_upd (o := .lst []) ne
              refine ⟨.list ((b.cps.toList.filter fun c => !digC c).map fun c => PyData.str (sgn c)), .list ((([] : List Nat)).map fun c => PyData.str (sgn c)), .lst (.of (se _ _ hL)) (dp_sgs _), .lst (.of upd_same) .nil, shaped_sgs (fun c hc => cb c (List.mem_filter.mp hc).1), shaped_sgs (fun c hc => by cases hc), _, rfl, ?_⟩
              rw [show PyData.eqv (.list ((b.cps.toList.filter fun c => !digC c).map fun c => PyData.str (sgn c))) (.list ((([] : List Nat)).map fun c => PyData.str (sgn c))) = _ from eqv_nilD, filter_empty digC, ← db]
              have s3 := s12.trans (sm.trans se)
              have hp := (sm.trans se) _ _ hp
              cases dg : digB b with
              | false =>
                rw [dg] at er
                exact iteP rfl (qn er _ s3)
              | true =>
                rw [dg] at er
                refine iteN rfl ⟨_, rfl, p, _, 0, _, rfl, rfl, .of hp, rfl, _, rfl, p, _, 1, _, rfl, rfl, .of hp, rfl, b, rfl, dg, by omega, (by show 2 ≤ sizeLine; decide), fun u nu => ?_⟩
                exact qs _ er _ u (s3.trans (same_upd nu)) (s3.free nu) upd_same
      · have er : runO z = none := by
          unfold runO
          rw [e]
        refine ⟨_, rfl, p, _, rfl, .inl (.of hp), _, _, rfl, rfl, _, rfl, ?_⟩
        exact iteP (decide_eq_true (by show (2 : Int) < ((((a :: b :: c :: r).map V.str).length : Nat) : Int); rw [List.length_map, List.length_cons, List.length_cons, List.length_cons]; omega)) (iteP rfl (qn er _ sp1))
end
end UP

set_option Elab.async false
set_option linter.all false
set_option maxRecDepth 100000
set_option maxHeartbeats 4000000
set_option pp.maxSteps 400
set_option exponentiation.threshold 500
namespace UP
open PySem PySem.Spec PyProof.Rows L2
theorem val_lt : ∀ (n : Nat) (l : List Nat), l.length = n → NumText.AllDigits l → NumText.digitsVal l < 10 ^ n
  | 0, l, h, _ => by
    rw [List.length_eq_zero_iff.mp h]
    decide
  | n + 1, l, h, ha => by
    have ne : l ≠ [] := fun e => by rw [e] at h; cases h
    have e := (List.dropLast_concat_getLast ne).symm
    have hl : l.dropLast.length = n := by rw [List.length_dropLast]; omega
    have ih := val_lt n l.dropLast hl fun c hc => ha c (List.dropLast_subset l hc)
    have hc := ha _ (List.getLast_mem ne)
    rw [e, NumText.digitsVal_snoc, Nat.pow_succ]
    omega
theorem run_bd {z : Str} {r : Run} (h : runO z = some r) (l : z.length ≤ 400) : r.2 < 10 ^ 400 := by
  obtain ⟨k, s, d, ep, _, hh⟩ := run_parts z
  rcases hh r h with ⟨_, rfl, _⟩ | ⟨_, dg, rfl, _⟩
  · show (1 : Int) < 10 ^ 400
    decide +kernel
  · have ld := (part_len ep).2
    have h1 := val_lt _ (TL.tl d) rfl (dig_all dg).1
    rw [← TL.len_tl] at h1
    have h2 : (10 : Nat) ^ d.length ≤ 10 ^ 400 := Nat.pow_le_pow_right (by decide) (by omega)
    show ((NumText.digitsVal (TL.tl d) : Nat) : Int) < 10 ^ 400
    exact Int.ofNat_lt.mpr (Nat.lt_of_lt_of_le h1 h2)
theorem run_log {z : Str} {r : Run} (h : runO z = some r) (l : z.length ≤ 400) : r.2.natAbs.log2 < 1920 := by
  have h1 := run_bd h l
  have h2 := (run_kind h).2.1
  have h3 : (10 : Nat) ^ 400 < 2 ^ 1900 := by decide +kernel
  have h4 : (10 : Int) ^ 400 = ((10 ^ 400 : Nat) : Int) := by decide +kernel
  rw [h4] at h1
  have h5 := log_of (n := r.2.natAbs) (by omega)
  rw [Int.natAbs_natCast] at h5
  exact h5
theorem run_len {z : Str} {r : Run} (h : runO z = some r) (l : z.length ≤ 400) : (nS r.2).length ≤ 401 := by
  have h1 := run_bd h l
  have h2 := (run_kind h).2.1
  obtain ⟨k, ek⟩ : ∃ k : Nat, r.2 = k := ⟨r.2.toNat, by omega⟩
  have h4 : (10 : Int) ^ 400 = ((10 ^ 400 : Nat) : Int) := by decide +kernel
  rw [ek, h4] at h1
  rw [ek, TL.len_tl, tl_nS]
  exact Nat.le_trans (TL.numL_len (k := 400) (by decide) (by omega)) (by decide)
section
variable {P : Program} {w : World} {K : PySem.W.Frag} {mg : Str → Option Value} {base : Heap}
/-! _law_plain: slots 0:word 1:run 2:whole -/
abbrev s_law_plain : Stmt := topS 58
theorem sc_law_plain : FnScope ["word", "run", "whole"] ["word"] (defScope s_law_plain) := ⟨rfl, rfl, rfl, by decide +kernel, rfl, by decide +kernel, by decide +kernel⟩
def sp_law_plain : Sp := fun vs H Q _ => ∃ (z : Str) (r : Run), vs = [.str z] ∧ z.length ≤ 400 ∧ Chs z ∧ runO z = some r ∧ ∀ H', Same H H' → Q (.bl (exO z)) H'
theorem ok_law_plain (D : Df K mg "_law_plain" s_law_plain) (T : Tx mg) (G_law_run : Has P w K mg base 2 "_law_run" ["word"] sp_law_run) : Has P w K mg base 3 "_law_plain" ["word"] sp_law_plain := by
  refine has_of D sc_law_plain (fun _ _ _ _ _ _ us hl => match us, hl with | [_], _ => rfl) (fun vs H Q E h => ?_) (fun f cdv A outer s H vs Q E hr h => ?_)
  · obtain ⟨z, _, rfl, _⟩ := h
    rfl
  · obtain ⟨z, r, rfl, lz, chs, er, q⟩ := h
    refine ⟨_, (pss_cons (ps_set (i := 1) sc_law_plain.nd rfl (by first | exact Or.inl rfl | exact Or.inr rfl) (pe_callH G_law_run (hr.mono (by omega)) (by rfl) (pa_cons (pv 0) pa_nil)))
    (pss_cons (ps_set (i := 2) sc_law_plain.nd rfl (by first | exact Or.inl rfl | exact Or.inr rfl) (pe_ifExp (pt_cmpR op_eq (pe_ix ix_tup (pv 1) pe_int (fun _ _ => rfl)) pe_int (nomark _)) (pe_ix ix_tup (pv 1) pe_int (fun _ _ => rfl)) (pe_op op_add_str (pe_op op_add_str (pe_ix ix_tup (pv 1) pe_int (fun _ _ => rfl)) pe_str) (pe_callTy call_str_int (by rfl) T.n_str (by decide +kernel) (pa_cons (pe_ix ix_tup (pv 1) pe_int (fun _ _ => rfl)) pa_nil)))))
    (pss_one (ps_ret (pe_and (pe_cmpR op_eq (pv 0) (pv 2) (nomark _)) (pe_one (pe_cmpR op_gt (pe_ix ix_tup (pv 1) pe_int (fun _ _ => rfl)) pe_int (nomark _)))))))), ?_⟩
    have pl := plain_iff er
    have lg := run_log er lz
    have ln := run_len er lz
    have kl := (run_kind er).2.2
    refine ⟨_, rfl, z, rfl, lz, chs, fun e => ?_, fun r' er' H1 t s1 nt ht => ?_⟩
    · rw [er] at e
      cases e
    rw [er] at er'
    cases er'
    obtain ⟨k, n⟩ := r
    refine ⟨_, rfl, t, _, 1, _, rfl, rfl, .of ht, rfl, rfl, _, rfl, ?_⟩
    by_cases c1 : n = 1
    · rw [show wrd (k, n) = k from if_pos c1] at pl
      refine iteP (decide_eq_true (congrArg V.int c1)) ⟨_, rfl, t, _, 0, _, rfl, rfl, .of ht, rfl, _, rfl, _, rfl, ?_⟩
      refine ⟨rfl, _, rfl, ?_⟩
      by_cases cz : z = k
      · rw [decide_eq_true cz, Bool.true_and] at pl
        refine iteP (decide_eq_true (congrArg V.str cz)) ⟨_, rfl, t, _, 1, _, rfl, rfl, .of ht, rfl, _, _, rfl, rfl, ?_⟩
        rw [← pl] at q
        exact q _ s1
      · rw [decide_eq_false cz, Bool.false_and] at pl
        rw [← pl] at q
        exact iteN (decide_eq_false fun e => cz (V.str.inj e)) (q _ s1)
    · rw [show wrd (k, n) = k ++ "*" ++ nS n from if_neg c1] at pl
      refine iteN (decide_eq_false fun e => c1 (V.int.inj e)) ⟨_, rfl, t, _, 0, _, rfl, rfl, .of ht, rfl, k, _, rfl, rfl, ?_, _, rfl, t, _, 1, _, rfl, rfl, .of ht, rfl, n, rfl, lg, _, _, rfl, rfl, ?_, ?_⟩
      · show k.length + _ ≤ _
        have : ("*" : Str).length = 1 := by decide +kernel
        have : k.length ≤ z.length := kl
        exact smallE (by omega)
      · show (k ++ "*" : Str).length + (nS n).length ≤ _
        rw [app_len]
        have : ("*" : Str).length = 1 := by decide +kernel
        have : (nS n).length ≤ 401 := ln
        have : k.length ≤ z.length := kl
        exact smallE (by omega)
      · refine ⟨_, rfl, _, rfl, ?_⟩
        refine ⟨rfl, _, rfl, ?_⟩
        by_cases cz : z = k ++ "*" ++ nS n
        · rw [decide_eq_true cz, Bool.true_and] at pl
          refine iteP (decide_eq_true (congrArg V.str cz)) ⟨_, rfl, t, _, 1, _, rfl, rfl, .of ht, rfl, _, _, rfl, rfl, ?_⟩
          rw [← pl] at q
          exact q _ s1
        · rw [decide_eq_false cz, Bool.false_and] at pl
          rw [← pl] at q
          exact iteN (decide_eq_false fun e => cz (V.str.inj e)) (q _ s1)
/-! _law_words: slots 0:text -/
abbrev s_law_words : Stmt := topS 59
theorem sc_law_words : FnScope ["text"] ["text"] (defScope s_law_words) := ⟨rfl, rfl, rfl, by decide +kernel, rfl, by decide +kernel, by decide +kernel⟩
def sp_law_words : Sp := fun vs H Q _ => ∃ z : Str, vs = [.str z] ∧ z.length ≤ 7000 ∧ ∀ H' p, Same H H' → H p = none → H' p = some (.lst ((wrds z).map V.str)) → Q (.ref p) H'
theorem ok_law_words (D : Df K mg "_law_words" s_law_words) (T : Tx mg) : Has P w K mg base 1 "_law_words" ["text"] sp_law_words := by
  refine has_of D sc_law_words (fun _ _ _ _ _ _ us hl => match us, hl with | [_], _ => rfl) (fun vs H Q E h => ?_) (fun f cdv A outer s H vs Q E hr h => ?_)
  · obtain ⟨z, rfl, _⟩ := h
    rfl
  · obtain ⟨z, rfl, lz, q⟩ := h
    refine ⟨_, (pss_one (ps_ret (pe_ifExp (pt_cmpR op_ne (pv 0) pe_str (nomark _)) (pe_split (pv 0) pe_str) (pe_lst pa_nil)))), ?_⟩
    refine ⟨_, rfl, rfl, _, rfl, ?_⟩
    unfold wrds at q
    by_cases e : z = ""
    · rw [if_pos e] at q
      refine iteN ?_ ⟨Nat.zero_le _, fun p np => q _ p (same_upd np) np upd_same⟩
      show (!decide (V.str z = V.str "")) = false
      rw [decide_eq_true (congrArg V.str e)]
      rfl
    · rw [if_neg e, ← split_any] at q
      refine iteP ?_ ⟨_, rfl, ⟨_, rfl⟩, _, _, rfl, rfl, (by decide +kernel), smallE (by omega), fun p np => q _ p (same_upd np) np upd_same⟩
      show (!decide (V.str z = V.str "")) = true
      rw [decide_eq_false (fun x => e (V.str.inj x))]
      rfl
theorem errS_none : errS none = "error None" := by decide +kernel
/-! ### the words of a text -/
structure OkZ (z : Str) : Prop where
  l : z.length ≤ 7000
  w : ∀ w ∈ wrds z, w.length ≤ 400
  c : ∀ w ∈ wrds z, Chs w
/-- the places of another form -/
def badTo (p : Str → Bool) (ws : List Str) (i : Nat) : List Nat := (List.range i).filter fun j => !p (ws.getD j "")
theorem badTo_step {p : Str → Bool} {ws : List Str} {i : Nat} {k : Str} (e : ws[i]? = some k) : badTo p ws (i + 1) = badTo p ws i ++ (if p k = true then [] else [i]) := by
  unfold badTo
  rw [List.range_succ, List.filter_append, List.filter_cons, List.getD_eq_getElem?_getD, e]
  cases h : p k <;> simp [h]
theorem badTo_head {p : Str → Bool} {ws : List Str} : (badTo p ws ws.length).head? = badI p ws := by
  unfold badTo badI
  rw [List.head?_filter]
  cases e : ws.findIdx? fun w => !p w with
  | none =>
    have h := List.findIdx?_eq_none_iff.mp e
    rw [List.find?_eq_none]
    intro j hj hc
    have hj := List.mem_range.mp hj
    have := h (ws.getD j "") (by rw [List.getD_eq_getElem?_getD, List.getElem?_eq_getElem hj]; exact List.getElem_mem hj)
    rw [this] at hc
    cases hc
  | some i =>
    obtain ⟨hi, h1, h2⟩ := List.findIdx?_eq_some_iff_getElem.mp e
    rw [List.find?_range_eq_some]
    have get : ∀ j (hj : j < ws.length), ws.getD j "" = ws[j] := fun j hj => by rw [List.getD_eq_getElem?_getD, List.getElem?_eq_getElem hj]; rfl
    refine ⟨by rw [get i hi]; exact h1, List.mem_range.mpr hi, fun j hj => ?_⟩
    have := h2 j hj
    rw [get j (by omega)]
    simpa using this
theorem badTo_len {p : Str → Bool} {ws : List Str} {i : Nat} : (badTo p ws i).length ≤ i := by
  have := List.length_filter_le (fun j => !p (ws.getD j "")) (List.range i)
  rw [List.length_range] at this
  exact this
def nV (n : Nat) : V := .int (n : Nat)
theorem dp_nats {K : PySem.W.Frag} {H : Hp} : ∀ l : List Nat, DpAll K H (l.map nV) (l.map fun n : Nat => .int (n : Int))
  | [] => .nil
  | n :: t => .cons (.int _) (dp_nats t)
theorem shaped_nats (l : List Nat) : SeqAt.shaped (.list (l.map fun n : Nat => PyData.int (n : Int))) = true := by
  have gen : ∀ l : List Nat, PyData.canLayAll0 (l.map fun n : Nat => PyData.int (n : Int)) = true ∧ PyData.depthAll (l.map fun n : Nat => PyData.int (n : Int)) = 0 := by
    intro l
    induction l with
    | nil => exact ⟨by rw [List.map_nil, PyData.canLayAll0], by rw [List.map_nil, PyData.depthAll]⟩
    | cons n t ih =>
      rw [List.map_cons, PyData.canLayAll0, PyData.depthAll, ih.1, ih.2, PyData.canLay0, PyData.depth]
      exact ⟨rfl, rfl⟩
  obtain ⟨h1, h2⟩ := gen l
  unfold SeqAt.shaped
  rw [PyData.canLay0, PyData.depth, h1, h2]
  rfl
/-- bad != [] -/
theorem ne_nil {K : PySem.W.Frag} {H : Hp} {L e : Addr} {l : List Nat} (hL : H L = some (.lst (l.map nV))) (he : H e = some (.lst [])) {Q : VK} (q : Q (.bl (!l.isEmpty)) H) : rNeD K (.ref L) (.ref e) H Q := by
  refine ⟨.list (l.map fun n : Nat => PyData.int (n : Int)), .list (([] : List Nat).map fun n : Nat => PyData.int (n : Int)), .lst (.of hL) (dp_nats _), .lst (.of he) .nil, shaped_nats _, shaped_nats _, ?_⟩
  rw [show PyData.eqv (.list (l.map fun n : Nat => PyData.int (n : Int))) (.list (([] : List Nat).map fun n : Nat => PyData.int (n : Int))) = _ from eqv_nilD, List.isEmpty_map]
  exact q
/-! _law_state_of: slots 0:text 1:words 2:bad 3:at 4:word -/
abbrev s_law_state_of : Stmt := topS 61
theorem sc_law_state_of : FnScope ["text", "words", "bad", "at", "word"] ["text"] (defScope s_law_state_of) := ⟨rfl, rfl, rfl, by decide +kernel, rfl, by decide +kernel, by decide +kernel⟩
def sp_law_of (f : Str → Out) : Sp := fun vs H Q _ => ∃ z : Str, vs = [.str z] ∧ OkZ z ∧ ∀ H' u, Same H H' → Rp H' u (outD (f z)) → Q u H'
theorem ok_law_state_of (D : Df K mg "_law_state_of" s_law_state_of) (T : Tx mg) (G_law_words : Has P w K mg base 1 "_law_words" ["text"] sp_law_words) (G_law_run : Has P w K mg base 2 "_law_run" ["word"] sp_law_run) (G_law_plain : Has P w K mg base 3 "_law_plain" ["word"] sp_law_plain) : Has P w K mg base 4 "_law_state_of" ["text"] (sp_law_of stZ) := by
  refine has_of D sc_law_state_of (fun _ _ _ _ _ _ us hl => match us, hl with | [_], _ => rfl) (fun vs H Q E h => ?_) (fun f cdv A outer s H vs Q E hr h => ?_)
  · obtain ⟨z, rfl, _⟩ := h
    rfl
  · obtain ⟨z, rfl, ok, q⟩ := h
    obtain ⟨lz, lw, cw⟩ := ok
    have nw := wrds_len z
    refine ⟨_, (pss_cons (ps_set (i := 1) sc_law_state_of.nd rfl (by first | exact Or.inl rfl | exact Or.inr rfl) (pe_callH G_law_words (hr.mono (by omega)) (by rfl) (pa_cons (pv 0) pa_nil)))
    (pss_cons (ps_setLc (i := 2) (own := [("at", 3), ("word", 4)]) rfl sc_law_state_of.nd rfl rfl (sw_true rfl rfl rfl (by decide +kernel)) (pi_enum (by rfl) T.n_enumerate (pa_cons (pv 1) pa_nil)) (blkOk_by (N := ["text", "words", "bad", "at", "word"]) (sc := defScope s_law_state_of) (by decide +kernel)) (fun _ _ _ _ _ => (pg_tupK (K := K) (n := 2) rfl rfl (pgs_cons (pg_name (i := 3) sc_law_state_of.nd rfl (by first | exact Or.inl rfl | exact Or.inr rfl)) (pgs_cons (pg_name (i := 4) sc_law_state_of.nd rfl (by first | exact Or.inl rfl | exact Or.inr rfl)) pgs_nil)))) (fun _ _ _ _ _ => pts_one (PW.pt (pw_and (pt_cmpR op_ne (pv 4) pe_str (nomark _)) (pw_and1 (pt_cmpR op_isN (pe_callH G_law_run (hr.mono (by omega)) (by rfl) (pa_cons (pv 4) pa_nil)) pe_non (nomark _)))))) (fun _ _ _ _ _ => (pv 3)))
    (pss_cons (ps_if (pt_cmpR (op_neD hr.units) (pv 2) (pe_lst pa_nil) (nomark _)) (pss_one (ps_ret (pe_op op_add_str pe_str (pe_callTy call_str_int (by rfl) T.n_str (by decide +kernel) (pa_cons (pe_ix ix_list (pv 2) pe_int (fun _ _ => rfl)) pa_nil))))) pss_nil)
    (pss_cons (ps_if (pt_cmpR op_ne (pe_callB call_len_seq (by rfl) T.n_len (by decide +kernel) (pa_cons (pv 1) pa_nil)) pe_int (nomark _)) (pss_one (ps_ret pe_str)) pss_nil)
    (pss_cons (ps_if (pt_cmpR op_eq (pe_ix ix_list (pv 1) pe_int (fun _ _ => rfl)) pe_str (nomark _)) (pss_one (ps_ret pe_non)) pss_nil)
    (pss_one (ps_ret (pe_ifExp (pt_val (pe_callH G_law_plain (hr.mono (by omega)) (by rfl) (pa_cons (pe_ix ix_list (pv 1) pe_int (fun _ _ => rfl)) pa_nil))) (pe_callH G_law_run (hr.mono (by omega)) (by rfl) (pa_cons (pe_ix ix_list (pv 1) pe_int (fun _ _ => rfl)) pa_nil)) pe_str)))))))), ?_⟩
    refine ⟨_, rfl, z, rfl, lz, fun H1 p s1 np hp => ?_⟩
    have one := @words_one z
    unfold stZ at q
    generalize wrds z = ws at *
    refine ⟨_, rfl, p, _, rfl, .of hp, fun L nL => lc_gen (J := Ite K p) (n := ws.length) (fun i H' => Same H1 H' ∧ H' L = some (.lst ((badTo (fun w => decide (w = "-") || (runO w).isSome) ws i).map nV))) ⟨same_upd nL, upd_same⟩ (fun i H' hi hP => ⟨_, _, .of (hP.1 _ _ hp), by rw [List.getElem?_map, List.getElem?_eq_getElem hi]; rfl⟩) (fun H' hP => ⟨_, .of (hP.1 _ _ hp), by rw [List.length_map]; exact Nat.le_refl _⟩) (fun i x H2 H3 hi hP y => ?_) (fun H2 hP => ?_)⟩
    · obtain ⟨sm, hL⟩ := hP
      obtain ⟨t, x, rfl, nt, rfl, hx⟩ := y
      have hx := hx _ (.of (sm _ _ hp))
      rw [List.getElem?_map, List.getElem?_eq_getElem hi] at hx
      cases hx
      have ek := List.getElem?_eq_getElem hi
      have mk := List.mem_of_getElem? ek
      generalize ws[i] = k at *
      have st := same_upd (o := .tup [.int (i : Nat), .str k]) nt
      have step := badTo_step (p := fun w => decide (w = "-") || (runO w).isSome) ek
      have lim : (List.map nV (badTo (fun w => decide (w = "-") || (runO w).isSome) ws i)).length < sizeLine := by
        have := badTo_len (p := fun w => decide (w = "-") || (runO w).isSome) (ws := ws) (i := i)
        rw [List.length_map]
        exact small (by omega)
      have sm1 := sm.trans st
      have hL1 := st _ _ hL
      refine ⟨t, _, rfl, .of upd_same, rfl, _, _, rfl, _, _, rfl, rfl, rfl, _, rfl, rfl, _, rfl, ?_⟩
      by_cases c : k = "-"
      · rw [if_pos (by rw [decide_eq_true c]; rfl), List.append_nil] at step
        rw [step]
        refine iteN ?_ (iteF ⟨sm1, hL1⟩)
        show (!decide (V.str k = V.str "-")) = false
        rw [decide_eq_true (congrArg V.str c)]
        rfl
      · refine iteP ?_ ⟨_, rfl, k, rfl, lw k mk, cw k mk, fun e H4 s4 => ⟨rfl, _, rfl, iteT ⟨_, rfl, _, s4 _ _ hL1, lim, same_grow nL (sm1.trans s4), ?_⟩⟩, fun r e H4 u s4 _ _ => ⟨rfl, _, rfl, iteF ⟨sm1.trans s4, ?_⟩⟩⟩
        · show (!decide (V.str k = V.str "-")) = true
          rw [decide_eq_false (fun e => c (V.str.inj e))]
          rfl
        · rw [step, if_neg (by rw [decide_eq_false c, e]; decide), upd_same, List.map_append]
          rfl
        · rw [step, if_pos (by rw [e]; exact Bool.or_true _), List.append_nil]
          exact s4 _ _ hL1
    obtain ⟨sm, hL⟩ := hP
    have s2 := s1.trans sm
    have hp2 := sm _ _ hp
    have hd := badTo_head (p := fun w => decide (w = "-") || (runO w).isSome) (ws := ws)
    have lb := badTo_len (p := fun w => decide (w = "-") || (runO w).isSome) (ws := ws) (i := ws.length)
    have mb : ∀ j ∈ badTo (fun w => decide (w = "-") || (runO w).isSome) ws ws.length, j < ws.length := fun j hj => List.mem_range.mp (List.mem_filter.mp hj).1
    have al : badTo (fun w => decide (w = "-") || (runO w).isSome) ws ws.length = [] → ∀ w ∈ ws, (decide (w = "-") || (runO w).isSome) = true := fun e w hw => by
      rw [e] at hd
      have this : (!(decide (w = "-") || (runO w).isSome)) = false := List.findIdx?_eq_none_iff.mp hd.symm w hw
      cases h : (decide (w = "-") || (runO w).isSome) with
      | true => rfl
      | false => rw [h] at this; cases this
    refine ⟨_, rfl, Nat.zero_le _, fun e ne => ne_nil (same_upd ne _ _ hL) upd_same ⟨_, rfl, ?_⟩⟩
    have s3 := s2.trans (same_upd (o := .lst []) ne)
    have hp3 := same_upd (o := .lst []) ne _ _ hp2
    have hL3 := same_upd (o := .lst []) ne _ _ hL
    generalize upd H2 e (.lst []) = H3 at *
    generalize badTo (fun w => decide (w = "-") || (runO w).isSome) ws ws.length = bs at *
    cases bs with
    | cons i t =>
      have hd : some i = badI _ ws := hd
      rw [← hd] at q
      have hi := mb i (List.mem_cons_self ..)
      refine iteP rfl ⟨_, rfl, L, _, 0, _, rfl, rfl, .of hL3, atI_ofB (by decide) rfl, (i : Int), rfl, log_of (Nat.lt_of_lt_of_le (show i < 10000 by omega) (by decide +kernel)), _, _, rfl, rfl, errS_le (o := some i) (fun j e => by cases e; omega), ?_⟩
      exact q _ _ s3 (.str _)
    | nil =>
      have hd : none = badI _ ws := hd
      rw [← hd] at q
      have al := al rfl
      have errN : ∀ H', Same H H' → stTail ws = .err none → Q (.str "error None") H' := fun H' s' e => q _ _ s' (by
        show Rp H' _ (outD (stTail ws))
        rw [e, show outD (.err none) = .str "error None" from congrArg Dat.str errS_none]
        exact .str _)
      refine iteN rfl ⟨_, rfl, p, _, rfl, .inl (.of hp3), rfl, _, rfl, ?_⟩
      rcases ws with _ | ⟨a, _ | ⟨b, t⟩⟩
      · exact iteP rfl (errN _ s3 rfl)
      · obtain rfl := one rfl
        refine iteN rfl ⟨_, rfl, p, _, 0, _, rfl, rfl, .of hp3, rfl, rfl, _, rfl, ?_⟩
        have mz : z ∈ [z] := List.mem_cons_self ..
        by_cases c : z = "-"
        · refine iteP (decide_eq_true (congrArg V.str c)) ?_
          have : stTail [z] = .ok .non := by rw [c]; show (if exO "-" = true then Out.ok (runD (runO "-")) else _) = _; rw [hyp_none]; exact if_pos (by decide +kernel)
          exact q _ _ s3 (by show Rp _ _ (outD (stTail [z])); rw [this]; exact .non)
        · refine iteN (decide_eq_false fun e => c (V.str.inj e)) ?_
          have iss := al z mz
          rw [decide_eq_false c, Bool.false_or] at iss
          obtain ⟨r, er⟩ := Option.isSome_iff_exists.mp iss
          refine ⟨_, rfl, p, _, 0, _, rfl, rfl, .of hp3, rfl, z, r, rfl, lw z mz, cw z mz, er, fun H4 s4 => ⟨_, rfl, ?_⟩⟩
          have hp4 := s4 _ _ hp3
          cases ex : exO z with
          | false => exact iteN rfl (errN _ (s3.trans s4) (by show (if exO z = true then _ else _) = _; rw [ex]; rfl))
          | true =>
            refine iteP rfl ⟨_, rfl, p, _, 0, _, rfl, rfl, .of hp4, rfl, z, rfl, lw z mz, cw z mz, fun e => ?_, fun r' er' H5 u s5 nu hu => q _ _ ((s3.trans s4).trans s5) ?_⟩
            · rw [er] at e
              cases e
            · rw [er] at er'
              cases er'
              show Rp _ _ (outD (stTail [z]))
              have : stTail [z] = .ok (dR r) := by show (if exO z = true then Out.ok (runD (runO z)) else _) = _; rw [ex, er]; rfl
              rw [this]
              exact .tup hu (.cons (.str _) (.cons (.int _) .nil))
      · refine iteP ?_ (errN _ s3 rfl)
        show (!decide (V.int ((((a :: b :: t).map V.str).length : Nat) : Int) = V.int 1)) = true
        rw [decide_eq_false (fun e => by have := V.int.inj e; rw [List.length_map, List.length_cons, List.length_cons] at this; omega)]
        rfl
end
end UP

set_option Elab.async false
set_option linter.all false
set_option maxRecDepth 100000
set_option maxHeartbeats 4000000
set_option pp.maxSteps 400
namespace UP
open PySem PySem.Spec PyProof.Rows L2
theorem badI_at {p : Str → Bool} {ws : List Str} {i : Nat} {k : Str} (e : ws[i]? = some k) (h : p k = false) (pre : ∀ j x, j < i → ws[j]? = some x → p x = true) : badI p ws = some i := by
  obtain ⟨hi, ek⟩ := List.getElem?_eq_some_iff.mp e
  refine List.findIdx?_eq_some_iff_getElem.mpr ⟨hi, by rw [ek, h]; rfl, fun j hj => ?_⟩
  have := pre j _ hj (List.getElem?_eq_getElem (by omega))
  rw [this]
  decide
theorem badI_no {p : Str → Bool} {ws : List Str} (pre : ∀ j x, j < ws.length → ws[j]? = some x → p x = true) : badI p ws = none := List.findIdx?_eq_none_iff.mpr fun w hw => by
  obtain ⟨j, hj⟩ := List.mem_iff_getElem?.mp hw
  have := pre j w (List.getElem?_eq_some_iff.mp hj).1 hj
  rw [this]
  rfl
theorem ent_take {ws : List Str} {i : Nat} {k : Str} {e : En} (ek : ws[i]? = some k) (h : entO k = some e) : (ws.take (i + 1)).filterMap entO = (ws.take i).filterMap entO ++ [e] := by
  rw [take_snoc ek, List.filterMap_append, List.filterMap_cons, h]
  rfl
section
variable {P : Program} {w : World} {K : PySem.W.Frag} {mg : Str → Option Value} {base : Heap}
/-! _law_record_of: slots 0:text 1:words 2:found 3:at 4:word 5:name -/
abbrev s_law_record_of : Stmt := topS 62
theorem sc_law_record_of : FnScope ["text", "words", "found", "at", "word", "name"] ["text"] (defScope s_law_record_of) := ⟨rfl, rfl, rfl, by decide +kernel, rfl, by decide +kernel, by decide +kernel⟩
theorem ok_law_record_of (D : Df K mg "_law_record_of" s_law_record_of) (T : Tx mg) (G_law_words : Has P w K mg base 1 "_law_words" ["text"] sp_law_words) (G_law_is_kind : Has P w K mg base 1 "_law_is_kind" ["word"] sp_law_is_kind) : Has P w K mg base 2 "_law_record_of" ["text"] (sp_law_of recZ) := by
  refine has_of D sc_law_record_of (fun _ _ _ _ _ _ us hl => match us, hl with | [_], _ => rfl) (fun vs H Q E h => ?_) (fun f cdv A outer s H vs Q E hr h => ?_)
  · obtain ⟨z, rfl, _⟩ := h
    rfl
  · obtain ⟨z, rfl, ok, q⟩ := h
    obtain ⟨lz, lw, cw⟩ := ok
    have nw := wrds_len z
    refine ⟨_, (pss_cons (ps_set (i := 1) sc_law_record_of.nd rfl (by first | exact Or.inl rfl | exact Or.inr rfl) (pe_callH G_law_words (hr.mono (by omega)) (by rfl) (pa_cons (pv 0) pa_nil)))
    (pss_cons (ps_set (i := 2) sc_law_record_of.nd rfl (by first | exact Or.inl rfl | exact Or.inr rfl) (pe_lst pa_nil))
    (pss_cons (ps_for PassesOwn.never rfl (pi_enum (by rfl) T.n_enumerate (pa_cons (pv 1) pa_nil)) (pg_tup rfl (pgs_cons (pg_name (i := 3) sc_law_record_of.nd rfl (by first | exact Or.inl rfl | exact Or.inr rfl)) (pgs_cons (pg_name (i := 4) sc_law_record_of.nd rfl (by first | exact Or.inl rfl | exact Or.inr rfl)) pgs_nil)))
      (pss_cons (ps_set (i := 5) sc_law_record_of.nd rfl (by first | exact Or.inl rfl | exact Or.inr rfl) (pe_slice sl_str (pv 4) po_none (po_some (pe_un un_neg pe_int))))
    (pss_cons (ps_if (PW.pt (pw_or (pt_cmpR op_notIn_seq (pe_slice sl_str (pv 4) (po_some (pe_un un_neg pe_int)) po_none) (pe_lst (pa_cons pe_str (pa_cons pe_str pa_nil))) (by with_unfolding_all rfl)) (pw_or1 (PW.pt (pw_and (pt_cmpR op_ne (pv 5) pe_str (nomark _)) (pw_and1 (pt_not (pt_val (pe_callH G_law_is_kind (hr.mono (by omega)) (by rfl) (pa_cons (pv 5) pa_nil)))))))))) (pss_one (ps_ret (pe_op op_add_str pe_str (pe_callTy call_str_int (by rfl) T.n_str (by decide +kernel) (pa_cons (pv 3) pa_nil))))) pss_nil)
    (pss_one (ps_expr (pe_bm PySem.F.plainAttrs_list PySem.F.slot_list_append PySem.F.type_list_append mt_append (pv 2) (pa_cons (pe_tup (pa_cons (pe_ifExp (pt_cmpR op_eq (pv 5) pe_str (nomark _)) pe_non (pv 5)) (pa_cons (pe_ifExp (pt_cmpR op_eq (pe_ix ix_str (pv 4) (pe_un un_neg pe_int) (fun _ _ => rfl)) pe_str (nomark _)) pe_str pe_str) pa_nil))) pa_nil)))))))
    (pss_one (ps_ret (pe_ifExp (pt_cmpR op_le (pe_callB call_len_seq (by rfl) T.n_len (by decide +kernel) (pa_cons (pv 2) pa_nil)) pe_int (nomark _)) (pv 2) pe_str)))))), ?_⟩
    refine ⟨_, rfl, z, rfl, lz, fun H1 p s1 np hp => ?_⟩
    unfold recZ at q
    generalize wrds z = ws at *
    refine ⟨Nat.zero_le _, fun F nF => ?_⟩
    refine ⟨_, rfl, p, _, rfl, .of (same_upd nF _ _ hp), for_gen (J := Ite K p) (n := ws.length) (fun i σ H' => ∃ (ys : List V) (y3 y4 y5 : Option V), σ = [some (.str z), some (.ref p), some (.ref F), y3, y4, y5] ∧ Same H1 H' ∧ H' F = some (.lst ys) ∧ Paired (EnR H') ys ((ws.take i).filterMap entO) ∧ ∀ j x, j < i → ws[j]? = some x → (entO x).isSome = true)
      ⟨[], none, none, none, rfl, same_upd nF, upd_same, .nil, fun j x h => absurd h (Nat.not_lt_zero _)⟩ (fun i σ H' hi hP => ?_) (fun σ H' hP => ?_) (fun i x σ H2 H3 hi hP y => ?_) (fun σ H2 hP => ?_)⟩
    · obtain ⟨_, _, _, _, _, sm, _⟩ := hP
      exact ⟨_, _, .of (sm _ _ hp), by rw [List.getElem?_map, List.getElem?_eq_getElem hi]; rfl⟩
    · obtain ⟨_, _, _, _, _, sm, _⟩ := hP
      exact ⟨_, .of (sm _ _ hp), by rw [List.length_map]; exact Nat.le_refl _⟩
    · obtain ⟨ys, y3, y4, y5, rfl, sm, hF, hy, pre⟩ := hP
      obtain ⟨t, x, rfl, nt, rfl, hx⟩ := y
      have hx := hx _ (.of (sm _ _ hp))
      rw [List.getElem?_map, List.getElem?_eq_getElem hi] at hx
      cases hx
      have ek := List.getElem?_eq_getElem hi
      have mk := List.mem_of_getElem? ek
      generalize ws[i] = k at *
      have st := same_upd (o := .tup [.int (i : Nat), .str k]) nt
      have lk := lw k mk
      have lk' : k.length ≤ sizeLine := smallE (by omega)
      have sm1 := sm.trans st
      have hF1 := st _ _ hF
      have hy1 : Paired (EnR (upd H2 t (.tup [.int (i : Nat), .str k]))) ys _ := Paired.imp (fun _ _ h => h.tk fun b xs e => st _ _ e) hy
      refine ⟨t, _, rfl, .of upd_same, rfl, _, _, rfl, _, _, rfl, rfl, ?_⟩
      clear hy hF
      generalize upd H2 t (.tup [.int (i : Nat), .str k]) = H4 at *
      have bad : ∀ (H5 : Hp), Same H4 H5 → entO k = none → Q (.str (errS (some i))) H5 := fun H5 s5 en => by
        have b := badI_at (p := fun w => (entO w).isSome) ek (by show (entO k).isSome = false; rw [en]; rfl) pre
        rw [b] at q
        exact q _ _ (s1.trans (sm1.trans s5)) (.str _)
      have lim : ys.length < sizeLine := by
        have l1 := Paired.len hy1
        have l2 := List.length_filterMap_le entO (ws.take i)
        rw [List.length_take] at l2
        exact small (by omega)
      have lgi : ((i : Nat) : Int).natAbs.log2 < 1920 := log_of (Nat.lt_of_lt_of_le (show i < 10000 by omega) (by decide +kernel))
      have lge : ("error " : Str).length + (Str.ofString (toString ((i : Nat) : Int))).length ≤ sizeLine := errS_le (o := some i) fun j e => by cases e; omega
      have fin : ∀ (e : En) (n5 : Str) (H5 : Hp) (u : Addr), entO k = some e → Same H4 H5 → H5 u = none → ∃ (ys' : List V) (y3 y4 y5 : Option V), [some (V.str z), some (.ref p), some (.ref F), some (.int (i : Nat)), some (.str k), some (.str n5)] = [some (.str z), some (.ref p), some (.ref F), y3, y4, y5] ∧ Same H1 (upd (upd H5 u (.tup [koV e.1, .str (actS e.2)])) F (.lst (ys ++ [.ref u]))) ∧ (upd (upd H5 u (.tup [koV e.1, .str (actS e.2)])) F (.lst (ys ++ [.ref u]))) F = some (.lst ys') ∧ Paired (EnR (upd (upd H5 u (.tup [koV e.1, .str (actS e.2)])) F (.lst (ys ++ [.ref u])))) ys' ((ws.take (i + 1)).filterMap entO) ∧ ∀ j x, j < i + 1 → ws[j]? = some x → (entO x).isSome = true := fun e n5 H5 u en s5 nu => by
        have hF6 := same_upd (o := .tup [koV e.1, .str (actS e.2)]) nu _ _ (s5 _ _ hF1)
        refine ⟨ys ++ [.ref u], _, _, _, rfl, same_grow nF ((sm1.trans s5).trans (same_upd nu)), upd_same, ?_, fun j x hj hx => ?_⟩
        · rw [ent_take ek en]
          exact Paired.app (Paired.imp (fun _ _ h => h.tk fun b xs e => tk_upd hF6 b xs (same_upd nu _ _ (s5 _ _ e))) hy1) (.cons ⟨u, rfl, tk_upd hF6 _ _ upd_same⟩ .nil)
        · rcases Nat.lt_succ_iff_lt_or_eq.mp hj with hj | hj
          · exact pre j x hj hx
          · rw [hj, ek] at hx
            cases hx
            rw [en]
            rfl
      rcases ent_cases k with ⟨rfl, en⟩ | ⟨a, c, ez, la, en⟩
      · refine ⟨_, rfl, 1, rfl, _, rfl, _, rfl, lk', ?_⟩
        refine ⟨_, rfl, 1, rfl, _, rfl, _, rfl, lk', (by show 2 ≤ sizeLine; decide), fun t nt => ?_⟩
        refine ⟨t, _, rfl, .inl (.of upd_same), rfl, rfl, ?_⟩
        rw [if_pos rfl, show cutS ("" : Str) (some (-1)) none = "" by decide +kernel, show inV (.str "") [.str "+", .str "-"] = false by decide +kernel]
        refine ⟨_, rfl, iteP rfl (iteP rfl ⟨_, rfl, (i : Nat), rfl, lgi, _, _, rfl, rfl, lge, bad _ (same_upd nt) en⟩)⟩
      · refine ⟨_, rfl, 1, rfl, _, rfl, _, rfl, lk', ?_⟩
        rw [cut_head ez]
        refine ⟨_, rfl, 1, rfl, _, rfl, _, rfl, lk', (by show 2 ≤ sizeLine; decide), fun t nt => ?_⟩
        refine ⟨t, _, rfl, .inl (.of upd_same), rfl, rfl, ?_⟩
        have s5 := same_upd (o := .lst [.str "+", .str "-"]) nt
        generalize upd H4 t (.lst [.str "+", .str "-"]) = H5 at *
        rw [if_pos rfl, cut_tail ez, one_in]
        by_cases h : c = 43 ∨ c = 45
        · rw [decide_eq_true h]
          rw [if_pos h] at en
          refine ⟨_, rfl, iteN rfl ?_⟩
          by_cases hq : a = "?"
          · rw [if_pos hq] at en
            have nq : (!decide (V.str a = V.str "?")) = false := by
              rw [decide_eq_true (congrArg V.str hq)]
              rfl
            have s6 := s5
            refine ⟨_, rfl, rfl, _, rfl, iteN nq (iteN rfl ?_)⟩
            refine ⟨_, rfl, .inl ⟨rfl, _, SqL.of (s6 _ _ hF1)⟩, _, rfl, rfl, _, rfl, iteP (decide_eq_true (congrArg V.str hq)) ⟨_, rfl, 1, rfl, _, -1, _, rfl, rfl, lk', at_tail ez, ?_⟩⟩
            rcases h with h | h
            · subst h
              refine ⟨rfl, _, rfl, iteP (by decide +kernel) ⟨(by show 2 ≤ sizeLine; decide), fun u nu => ⟨F, _, _, rfl, rfl, same_upd nu _ _ (s6 _ _ hF1), lim, fin (none, true) a _ u en s6 nu⟩⟩⟩
            · subst h
              refine ⟨rfl, _, rfl, iteN (by decide +kernel) ⟨(by show 2 ≤ sizeLine; decide), fun u nu => ⟨F, _, _, rfl, rfl, same_upd nu _ _ (s6 _ _ hF1), lim, fin (none, false) a _ u en s6 nu⟩⟩⟩
          · rw [if_neg hq] at en
            have nq : (!decide (V.str a = V.str "?")) = true := by
              rw [decide_eq_false (fun x => hq (V.str.inj x))]
              rfl
            have ca : Chs a := fun x hx => cw k mk x (by rw [ez]; exact List.mem_append_left _ hx)
            refine ⟨_, rfl, rfl, _, rfl, iteP nq ⟨_, rfl, a, rfl, by omega, ca, fun H6 s6 => ⟨_, rfl, ?_⟩⟩⟩
            have s6 := s5.trans s6
            cases kb : kindB a with
            | false =>
              rw [kb] at en
              exact iteP rfl ⟨_, rfl, (i : Nat), rfl, lgi, _, _, rfl, rfl, lge, bad _ s6 en⟩
            | true =>
              rw [kb] at en
              refine iteN rfl ?_
              refine ⟨_, rfl, .inl ⟨rfl, _, SqL.of (s6 _ _ hF1)⟩, _, rfl, rfl, _, rfl, iteN (decide_eq_false fun x => hq (V.str.inj x)) ⟨_, rfl, _, rfl, 1, rfl, _, -1, _, rfl, rfl, lk', at_tail ez, ?_⟩⟩
              rcases h with h | h
              · subst h
                refine ⟨rfl, _, rfl, iteP (by decide +kernel) ⟨(by show 2 ≤ sizeLine; decide), fun u nu => ⟨F, _, _, rfl, rfl, same_upd nu _ _ (s6 _ _ hF1), lim, fin (some a, true) a _ u en s6 nu⟩⟩⟩
              · subst h
                refine ⟨rfl, _, rfl, iteN (by decide +kernel) ⟨(by show 2 ≤ sizeLine; decide), fun u nu => ⟨F, _, _, rfl, rfl, same_upd nu _ _ (s6 _ _ hF1), lim, fin (some a, false) a _ u en s6 nu⟩⟩⟩
        · rw [decide_eq_false h]
          rw [if_neg h] at en
          exact ⟨_, rfl, iteP rfl (iteP rfl ⟨_, rfl, (i : Nat), rfl, lgi, _, _, rfl, rfl, lge, bad _ s5 en⟩)⟩
    · obtain ⟨ys, y3, y4, y5, rfl, sm, hF, hy, pre⟩ := hP
      rw [List.take_length] at hy
      have b := badI_no (p := fun w => (entO w).isSome) pre
      rw [b] at q
      have s2 := s1.trans sm
      have le : (ws.filterMap entO).length = ws.length := Paired.len (ents_all fun w hw => by
        obtain ⟨j, hj⟩ := List.mem_iff_getElem?.mp hw
        exact pre j w (List.getElem?_eq_some_iff.mp hj).1 hj) |>.symm
      have ly := Paired.len hy
      refine ⟨_, rfl, F, _, rfl, .inl (.of hF), _, _, rfl, rfl, _, rfl, ?_⟩
      by_cases c : ws.length ≤ 400
      · refine iteP (decide_eq_true (by omega)) ⟨_, rfl, q _ _ s2 ?_⟩
        show Rp _ _ (outD (if ws.length ≤ 400 then _ else _))
        rw [if_pos c]
        exact .lst hF (EnR.rp hy)
      · refine iteN (decide_eq_false (by omega)) (q _ _ s2 ?_)
        show Rp _ _ (outD (if ws.length ≤ 400 then _ else _))
        rw [if_neg c, show outD (.err none) = .str "error None" from congrArg Dat.str errS_none]
        exact .str _
end
end UP

set_option Elab.async false
set_option linter.all false
set_option maxRecDepth 100000
set_option maxHeartbeats 4000000
set_option pp.maxSteps 400
namespace UP
open PySem PySem.Spec PyProof.Rows L2
theorem dp_ones {K : PySem.W.Frag} {H : Hp} : ∀ m : Nat, DpAll K H (List.replicate m (V.int 1)) (List.replicate m (.int 1))
  | 0 => .nil
  | m + 1 => .cons (.int _) (dp_ones m)
theorem shaped_ones (m : Nat) : SeqAt.shaped (.list (List.replicate m (.int 1))) = true := by
  have c : ∀ m : Nat, PyData.canLayAll0 (List.replicate m (.int 1)) = true ∧ PyData.depthAll (List.replicate m (.int 1)) = 0 := by
    intro m
    induction m with
    | zero => exact ⟨by simp [PyData.canLayAll0], by simp [PyData.depthAll]⟩
    | succ m ih =>
      obtain ⟨h1, h2⟩ := ih
      rw [List.replicate_succ, PyData.canLayAll0, PyData.depthAll, h1, h2, PyData.canLay0, PyData.depth]
      exact ⟨rfl, rfl⟩
  obtain ⟨h1, h2⟩ := c m
  unfold SeqAt.shaped
  rw [PyData.canLay0, h1, PyData.depth, h2]
  rfl
theorem eq_nil {K : PySem.W.Frag} {H : Hp} {L e : Addr} {m : Nat} (hL : H L = some (.lst (List.replicate m (.int 1)))) (he : H e = some (.lst [])) {Q : VK} (q : Q (.bl (decide (m = 0))) H) : rEqD K (.ref L) (.ref e) H Q := by
  refine ⟨.list (List.replicate m (.int 1)), .list (List.replicate 0 (.int 1)), .lst (.of hL) (dp_ones _), .lst (.of he) .nil, shaped_ones _, shaped_ones _, ?_⟩
  rw [show PyData.eqv (.list (List.replicate m (.int 1))) (.list (List.replicate 0 (.int 1))) = _ from eqv_nilD]
  have : (List.replicate m (PyData.int 1)).isEmpty = decide (m = 0) := by cases m <;> rfl
  rw [this]
  exact q
theorem cut_one1 (xs : List V) : cutV xs (some 1) none = xs.drop 1 := by
  unfold cutV
  rw [show (some (1 : Int)) = some ((1 : Nat) : Int) from rfl, HT.sIx_nat, HT.sIx_none]
  cases xs with
  | nil => rfl
  | cons x t =>
    rw [show min 1 (x :: t).length = 1 by rw [List.length_cons]; omega]
    refine List.take_of_length_le ?_
    rw [List.length_drop]
    exact Nat.le_refl _
def bigN : Int := 1000000000000000000000000000000
theorem pw30 : (10 : Int) ^ 30 = bigN := by decide +kernel
/-- which two neighbours are of one kind -/
def samE (rs : List Run) (i : Nat) : Bool := decide ((rs.getD i ("", 0)).1 = (rs.getD (i + 1) ("", 0)).1)
theorem step_sam {rs : List Run} {i : Nat} (h : i + 1 < rs.length) : stepB (rs.map dR) i = !samE rs i := by
  have key : ∀ j, j < rs.length → keyAt (rs.map dR) j = (rs.getD j ("", 0)).1 := fun j hj => by
    unfold keyAt
    rw [List.getElem?_map, List.getElem?_eq_getElem hj, List.getD_eq_getElem?_getD, List.getElem?_eq_getElem hj]
    rfl
  unfold stepB samE
  rw [key i (by omega), key (i + 1) h]
  congr 1
  exact decide_eq_decide.mpr ⟨fun e => V.str.inj e, congrArg V.str⟩
theorem seq_dR {rs : List Run} (kb : ∀ r ∈ rs, kindB r.1 = true) (p1 : ∀ r ∈ rs, 1 ≤ r.2) : (Dat.lst (rs.map dR)).seq = (decide (rs.length ≤ 400) && (rs.all (fun r => decide (r.2 ≤ bigN)) && (List.range (rs.length - 1)).all fun i => !samE rs i)) := by
  show (decide ((((rs.map dR).length : Nat) : Int) ≤ 400) && ((rs.map dR).all Dat.run && ((List.range ((rs.map dR).length - 1)).map (stepB (rs.map dR))).all id)) = _
  rw [List.length_map, List.all_map, List.all_map]
  congr 1
  · exact decide_eq_decide.mpr ⟨fun h => by omega, fun h => by omega⟩
  congr 1
  · have : ∀ l : List Run, (∀ r ∈ l, kindB r.1 = true ∧ 1 ≤ r.2) → l.all (Dat.run ∘ dR) = l.all fun r => decide (r.2 ≤ bigN) := fun l hl => by
      induction l with
      | nil => rfl
      | cons r t ih =>
        obtain ⟨h1, h2⟩ := hl r (List.mem_cons_self ..)
        rw [List.all_cons, List.all_cons, ih fun x hx => hl x (List.mem_cons_of_mem _ hx)]
        congr 1
        show (kindB r.1 && decide (1 ≤ r.2 ∧ r.2 ≤ bigN)) = _
        rw [h1, Bool.true_and]
        exact decide_eq_decide.mpr ⟨fun h => h.2, fun h => ⟨h2, h⟩⟩
    exact this rs fun r hr => ⟨kb r hr, p1 r hr⟩
  · have : ∀ l : List Nat, (∀ i ∈ l, i + 1 < rs.length) → l.all (id ∘ stepB (rs.map dR)) = l.all fun i => !samE rs i := fun l hl => by
      induction l with
      | nil => rfl
      | cons i t ih =>
        rw [List.all_cons, List.all_cons, ih fun x hx => hl x (List.mem_cons_of_mem _ hx)]
        congr 1
        exact step_sam (hl i (List.mem_cons_self ..))
    exact this _ fun i hi => by
      have := List.mem_range.mp hi
      omega
section
variable {P : Program} {w : World} {K : PySem.W.Frag} {mg : Str → Option Value} {base : Heap}
/-! _law_sequence_of: slots 0:text 1:words 2:bad 3:found 4:odd 5:word 6:at 7:run 8:one 9:other -/
abbrev s_law_sequence_of : Stmt := topS 60
theorem sc_law_sequence_of : FnScope ["text", "words", "bad", "found", "odd", "word", "at", "run", "one", "other"] ["text"] (defScope s_law_sequence_of) := ⟨rfl, rfl, rfl, by decide +kernel, rfl, by decide +kernel, by decide +kernel⟩
theorem ok_law_sequence_of (D : Df K mg "_law_sequence_of" s_law_sequence_of) (T : Tx mg) (G_law_words : Has P w K mg base 1 "_law_words" ["text"] sp_law_words) (G_law_run : Has P w K mg base 2 "_law_run" ["word"] sp_law_run) (G_law_plain : Has P w K mg base 3 "_law_plain" ["word"] sp_law_plain) : Has P w K mg base 4 "_law_sequence_of" ["text"] (sp_law_of seqZ) := by
  refine has_of D sc_law_sequence_of (fun _ _ _ _ _ _ us hl => match us, hl with | [_], _ => rfl) (fun vs H Q E h => ?_) (fun f cdv A outer s H vs Q E hr h => ?_)
  · obtain ⟨z, rfl, _⟩ := h
    rfl
  · obtain ⟨z, rfl, ok, q⟩ := h
    obtain ⟨lz, lw, cw⟩ := ok
    have nw := wrds_len z
    refine ⟨_, (pss_cons (ps_set (i := 1) sc_law_sequence_of.nd rfl (by first | exact Or.inl rfl | exact Or.inr rfl) (pe_callH G_law_words (hr.mono (by omega)) (by rfl) (pa_cons (pv 0) pa_nil)))
    (pss_cons (ps_setLc (i := 2) (own := [("at", 6), ("word", 5)]) rfl sc_law_sequence_of.nd rfl rfl (sw_true rfl rfl rfl (by decide +kernel)) (pi_enum (by rfl) T.n_enumerate (pa_cons (pv 1) pa_nil)) (blkOk_by (N := ["text", "words", "bad", "found", "odd", "word", "at", "run", "one", "other"]) (sc := defScope s_law_sequence_of) (by decide +kernel)) (fun _ _ _ _ _ => (pg_tupK (K := K) (n := 2) rfl rfl (pgs_cons (pg_name (i := 6) sc_law_sequence_of.nd rfl (by first | exact Or.inl rfl | exact Or.inr rfl)) (pgs_cons (pg_name (i := 5) sc_law_sequence_of.nd rfl (by first | exact Or.inl rfl | exact Or.inr rfl)) pgs_nil)))) (fun _ _ _ _ _ => pts_one (pt_cmpR op_isN (pe_callH G_law_run (hr.mono (by omega)) (by rfl) (pa_cons (pv 5) pa_nil)) pe_non (nomark _))) (fun _ _ _ _ _ => (pv 6)))
    (pss_cons (ps_if (pt_cmpR (op_neD hr.units) (pv 2) (pe_lst pa_nil) (nomark _)) (pss_one (ps_ret (pe_op op_add_str pe_str (pe_callTy call_str_int (by rfl) T.n_str (by decide +kernel) (pa_cons (pe_ix ix_list (pv 2) pe_int (fun _ _ => rfl)) pa_nil))))) pss_nil)
    (pss_cons (ps_setLc (i := 3) (own := [("word", 5)]) rfl sc_law_sequence_of.nd rfl rfl (sw_true rfl rfl rfl (by decide +kernel)) (pi_list (pv 1)) (blkOk_by (N := ["text", "words", "bad", "found", "odd", "word", "at", "run", "one", "other"]) (sc := defScope s_law_sequence_of) (by decide +kernel)) (fun _ _ _ _ _ => (pg_name (i := 5) sc_law_sequence_of.nd rfl (by first | exact Or.inl rfl | exact Or.inr rfl))) (fun _ _ _ _ _ => pts_nil) (fun _ _ _ _ _ => (pe_callH G_law_run (hr.mono (by omega)) (by rfl) (pa_cons (pv 5) pa_nil))))
    (pss_cons (ps_setLc (i := 4) (own := [("word", 5)]) rfl sc_law_sequence_of.nd rfl rfl (sw_true rfl rfl rfl (by decide +kernel)) (pi_list (pv 1)) (blkOk_by (N := ["text", "words", "bad", "found", "odd", "word", "at", "run", "one", "other"]) (sc := defScope s_law_sequence_of) (by decide +kernel)) (fun _ _ _ _ _ => (pg_name (i := 5) sc_law_sequence_of.nd rfl (by first | exact Or.inl rfl | exact Or.inr rfl))) (fun _ _ _ _ _ => pts_one (pt_not (pt_val (pe_callH G_law_plain (hr.mono (by omega)) (by rfl) (pa_cons (pv 5) pa_nil))))) (fun _ _ _ _ _ => pe_int))
    (pss_cons (ps_set (i := 4) sc_law_sequence_of.nd rfl (by first | exact Or.inl rfl | exact Or.inr rfl) (pe_op op_cat (pv 4) (pe_lc (own := [("run", 7)]) rfl sc_law_sequence_of.nd (pi_list (pv 3)) (blkOk_by (N := ["text", "words", "bad", "found", "odd", "word", "at", "run", "one", "other"]) (sc := defScope s_law_sequence_of) (by decide +kernel)) (fun _ _ _ _ _ => (pg_name (i := 7) sc_law_sequence_of.nd rfl (by first | exact Or.inl rfl | exact Or.inr rfl))) (fun _ _ _ _ _ => pts_one (pt_cmpR op_gt (pe_ix (ix_tupK (K := K) rfl) (pv 7) pe_int (fun _ _ => rfl)) (pe_op op_pow pe_int pe_int) (nomark _))) (fun _ _ _ _ _ => pe_int))))
    (pss_cons (ps_set (i := 4) sc_law_sequence_of.nd rfl (by first | exact Or.inl rfl | exact Or.inr rfl) (pe_op op_cat (pv 4) (pe_lc (own := [("one", 8), ("other", 9)]) rfl sc_law_sequence_of.nd (pi_zip (by rfl) T.n_zip (pa_cons (pv 3) (pa_cons (pe_slice sl_list (pv 3) (po_some pe_int) po_none) pa_nil))) (blkOk_by (N := ["text", "words", "bad", "found", "odd", "word", "at", "run", "one", "other"]) (sc := defScope s_law_sequence_of) (by decide +kernel)) (fun _ _ _ _ _ => (pg_tupK (K := K) (n := 2) rfl rfl (pgs_cons (pg_name (i := 8) sc_law_sequence_of.nd rfl (by first | exact Or.inl rfl | exact Or.inr rfl)) (pgs_cons (pg_name (i := 9) sc_law_sequence_of.nd rfl (by first | exact Or.inl rfl | exact Or.inr rfl)) pgs_nil)))) (fun _ _ _ _ _ => pts_one (pt_cmpR op_eq (pe_ix (ix_tupK (K := K) rfl) (pv 8) pe_int (fun _ _ => rfl)) (pe_ix (ix_tupK (K := K) rfl) (pv 9) pe_int (fun _ _ => rfl)) (nomark _))) (fun _ _ _ _ _ => pe_int))))
    (pss_one (ps_ret (pe_ifExp (PW.pt (pw_and (pt_cmpR (op_eqD hr.units) (pv 4) (pe_lst pa_nil) (nomark _)) (pw_and1 (pt_cmpR op_le (pe_callB call_len_seq (by rfl) T.n_len (by decide +kernel) (pa_cons (pv 3) pa_nil)) pe_int (nomark _))))) (pv 3) pe_str)))))))))), ?_⟩
    refine ⟨_, rfl, z, rfl, lz, fun H1 p s1 np hp => ?_⟩
    unfold seqZ runsZ at q
    generalize wrds z = ws at *
    refine ⟨_, rfl, p, _, rfl, .of hp, fun L nL => lc_gen (J := Ite K p) (n := ws.length) (fun i H' => Same H1 H' ∧ H' L = some (.lst ((badTo (fun w => (runO w).isSome) ws i).map nV))) ⟨same_upd nL, upd_same⟩ (fun i H' hi hP => ⟨_, _, .of (hP.1 _ _ hp), by rw [List.getElem?_map, List.getElem?_eq_getElem hi]; rfl⟩) (fun H' hP => ⟨_, .of (hP.1 _ _ hp), by rw [List.length_map]; exact Nat.le_refl _⟩) (fun i x H2 H3 hi hP y => ?_) (fun H2 hP => ?_)⟩
    · obtain ⟨sm, hL⟩ := hP
      obtain ⟨t, x, rfl, nt, rfl, hx⟩ := y
      have hx := hx _ (.of (sm _ _ hp))
      rw [List.getElem?_map, List.getElem?_eq_getElem hi] at hx
      cases hx
      have ek := List.getElem?_eq_getElem hi
      have mk := List.mem_of_getElem? ek
      generalize ws[i] = k at *
      have st := same_upd (o := .tup [.int (i : Nat), .str k]) nt
      have step := badTo_step (p := fun w => (runO w).isSome) ek
      have lim : (List.map nV (badTo (fun w => (runO w).isSome) ws i)).length < sizeLine := by
        have := badTo_len (p := fun w => (runO w).isSome) (ws := ws) (i := i)
        rw [List.length_map]
        exact small (by omega)
      have sm1 := sm.trans st
      have hL1 := st _ _ hL
      refine ⟨t, _, rfl, .of upd_same, rfl, _, _, rfl, _, _, rfl, rfl, rfl, _, rfl, k, rfl, lw k mk, cw k mk, fun e H4 s4 => ⟨rfl, _, rfl, iteT ⟨_, rfl, _, s4 _ _ hL1, lim, same_grow nL (sm1.trans s4), ?_⟩⟩, fun r e H4 u s4 _ _ => ⟨rfl, _, rfl, iteF ⟨sm1.trans s4, ?_⟩⟩⟩
      · rw [step, if_neg (by rw [e]; decide), upd_same, List.map_append]
        rfl
      · rw [step, if_pos (by rw [e]; rfl), List.append_nil]
        exact s4 _ _ hL1
    obtain ⟨sm, hL⟩ := hP
    have s2 := s1.trans sm
    have hp2 := sm _ _ hp
    have hd := badTo_head (p := fun w => (runO w).isSome) (ws := ws)
    have mb : ∀ j ∈ badTo (fun w => (runO w).isSome) ws ws.length, j < ws.length := fun j hj => List.mem_range.mp (List.mem_filter.mp hj).1
    have al : badTo (fun w => (runO w).isSome) ws ws.length = [] → ∀ w ∈ ws, (runO w).isSome = true := fun e w hw => by
      rw [e] at hd
      have this : (!(runO w).isSome) = false := List.findIdx?_eq_none_iff.mp hd.symm w hw
      cases h : (runO w).isSome with
      | true => rfl
      | false => rw [h] at this; cases this
    refine ⟨_, rfl, Nat.zero_le _, fun e ne => ne_nil (same_upd ne _ _ hL) upd_same ⟨_, rfl, ?_⟩⟩
    have s3 := s2.trans (same_upd (o := .lst []) ne)
    have hp3 := same_upd (o := .lst []) ne _ _ hp2
    have hL3 := same_upd (o := .lst []) ne _ _ hL
    generalize upd H2 e (.lst []) = H3 at *
    generalize badTo (fun w => (runO w).isSome) ws ws.length = bs at *
    cases bs with
    | cons i t =>
      have hd : some i = badI _ ws := hd
      rw [← hd] at q
      have hi := mb i (List.mem_cons_self ..)
      refine iteP rfl ⟨_, rfl, L, _, 0, _, rfl, rfl, .of hL3, atI_ofB (by decide) rfl, (i : Int), rfl, log_of (Nat.lt_of_lt_of_le (show i < 10000 by omega) (by decide +kernel)), _, _, rfl, rfl, errS_le (o := some i) (fun j e => by cases e; omega), ?_⟩
      exact q _ _ s3 (.str _)
    | nil =>
      have hd : none = badI _ ws := hd
      rw [← hd] at q
      have all := al rfl
      refine iteN rfl ?_
      have hw : ∀ (i : Nat) (x : V), (ws.map V.str)[i]? = some x → ∃ k, ws[i]? = some k ∧ x = .str k := fun i x h => by
        rw [List.getElem?_map] at h
        cases e : ws[i]? with
        | none => rw [e] at h; cases h
        | some k => rw [e] at h; cases h; exact ⟨k, rfl, rfl⟩
      have hrs := runs_all all
      have q : ∀ (H' : Hp) (u : V), Same H H' → Rp H' u (outD (if (ws.all exO && (Dat.lst ((ws.filterMap runO).map dR)).seq) = true then .ok (.lst ((ws.filterMap runO).map dR)) else .err none)) → Q u H' := q
      generalize ws.filterMap runO = rs at *
      have lrs := Paired.len hrs
      refine ⟨_, rfl, p, rfl, ⟨_, .of hp3⟩, fun M nM => lc_list (K := K) (a := p) (xs := ws.map V.str) (fun i H' => Same H3 H' ∧ ∃ ys, H' M = some (.lst ys) ∧ Paired (RnV H') ys (rs.take i)) ⟨same_upd nM, [], upd_same, .nil⟩ (fun i H' _ P => .of (P.1 _ _ hp3)) (fun i x H3 ex P => ?_) (fun H4 P => ?_)⟩
      · obtain ⟨sm3, ys, hM, hy⟩ := P
        obtain ⟨k, ek, rfl⟩ := hw i x ex
        obtain ⟨r, er, hr1⟩ := Paired.at hrs ek
        have mk := List.mem_of_getElem? ek
        have hi := (List.getElem?_eq_some_iff.mp ek).1
        have ly := Paired.len hy
        rw [List.length_take] at ly
        refine ⟨rfl, yesT ⟨_, rfl, k, rfl, lw k mk, cw k mk, fun e => ?_, fun r' er' H4 t s4 nt ht => ⟨_, s4 _ _ hM, small (by omega), same_grow nM (sm3.trans s4), ys ++ [.ref t], upd_same, ?_⟩⟩⟩
        · rw [hr1] at e
          cases e
        rw [hr1] at er'
        cases er'
        rw [take_snoc er]
        have hM4 := s4 _ _ hM
        exact Paired.app (Paired.imp (fun _ _ h => h.tk fun b xs e => tk_upd hM4 b xs (s4 _ _ e)) hy) (.cons ⟨t, rfl, tk_upd hM4 _ _ ht⟩ .nil)
      obtain ⟨sm4, ys, hM, hy⟩ := P
      rw [List.length_map, lrs, List.take_length] at hy
      have s4 := s3.trans sm4
      have hp4 := sm4 _ _ hp3
      have mr : ∀ i r, rs[i]? = some r → ∃ k, ws[i]? = some k ∧ runO k = some r := fun i r h => by
        obtain ⟨k, ek, h⟩ := Paired.at' hrs h
        exact ⟨k, ek, h⟩
      refine ⟨_, rfl, p, rfl, ⟨_, .of hp4⟩, fun N nN => lc_list (K := K) (a := p) (xs := ws.map V.str) (fun i H' => Same H4 H' ∧ ∃ m : Nat, H' N = some (.lst (List.replicate m (.int 1))) ∧ m ≤ i ∧ (m = 0 ↔ (ws.take i).all exO = true)) ⟨same_upd nN, 0, upd_same, Nat.le_refl _, ⟨(fun _ => rfl), (fun _ => rfl)⟩⟩ (fun i H' _ P => .of (P.1 _ _ hp4)) (fun i x H5 ex P => ?_) (fun H5 P => ?_)⟩
      · obtain ⟨sm, m, hN, lm, mm⟩ := P
        obtain ⟨k, ek, rfl⟩ := hw i x ex
        obtain ⟨r, er, hr1⟩ := Paired.at hrs ek
        have mk := List.mem_of_getElem? ek
        have hi := (List.getElem?_eq_some_iff.mp ek).1
        have step : (ws.take (i + 1)).all exO = ((ws.take i).all exO && exO k) := by
          rw [take_snoc ek, List.all_append, List.all_cons, List.all_nil, Bool.and_true]
        rw [step]
        refine ⟨rfl, _, rfl, k, r, rfl, lw k mk, cw k mk, hr1, fun H6 s6 => ⟨_, rfl, ?_⟩⟩
        cases ex : exO k with
        | true =>
          rw [Bool.and_true]
          exact iteF ⟨sm.trans s6, m, s6 _ _ hN, by omega, mm⟩
        | false =>
          rw [Bool.and_false]
          refine iteT ⟨_, s6 _ _ hN, by rw [List.length_replicate]; exact small (by omega), same_grow nN (sm.trans s6), m + 1, ?_, by omega, ⟨fun h => absurd h (by omega), fun h => by cases h⟩⟩
          rw [upd_same, List.replicate_succ']
      obtain ⟨sm5, a, hN, la, ma⟩ := P
      rw [List.length_map] at la ma
      rw [List.take_length] at ma
      have s5 := s4.trans sm5
      have hM5 := sm5 _ _ hM
      have hy5 : Paired (RnV H5) ys rs := Paired.imp (fun _ _ h => h.tk fun b xs e => sm5 _ _ e) hy
      have ly := Paired.len hy
      refine ⟨_, rfl, _, rfl, M, rfl, ⟨_, .of hM5⟩, fun B nB => lc_list (K := K) (a := M) (xs := ys) (fun i H' => Same H5 H' ∧ ∃ m : Nat, H' B = some (.lst (List.replicate m (.int 1))) ∧ m ≤ i ∧ (m = 0 ↔ (rs.take i).all (fun r => decide (r.2 ≤ bigN)) = true)) ⟨same_upd nB, 0, upd_same, Nat.le_refl _, ⟨(fun _ => rfl), (fun _ => rfl)⟩⟩ (fun i H' _ P => .of (P.1 _ _ hM5)) (fun i x H6 ex P => ?_) (fun H6 P => ?_)⟩
      · obtain ⟨sm, m, hB, lm, mm⟩ := P
        obtain ⟨r, er, hr1⟩ := Paired.at hy5 ex
        obtain ⟨t, rfl, ht⟩ := hr1
        have hi := (List.getElem?_eq_some_iff.mp ex).1
        have step : (rs.take (i + 1)).all (fun r => decide (r.2 ≤ bigN)) = ((rs.take i).all (fun r => decide (r.2 ≤ bigN)) && decide (r.2 ≤ bigN)) := by
          rw [take_snoc er, List.all_append, List.all_cons, List.all_nil, Bool.and_true]
        rw [step]
        refine ⟨rfl, _, rfl, t, _, 1, _, rfl, rfl, .of (sm _ _ ht), rfl, _, _, rfl, rfl, ?_, _, _, rfl, rfl, _, rfl, ?_⟩
        · exact ⟨by decide, by decide, by decide⟩
        show if decide ((10 : Int) ^ 30 < r.2) = true then _ else _
        by_cases c : r.2 ≤ bigN
        · rw [decide_eq_true c, Bool.and_true]
          exact iteN (decide_eq_false (by rw [pw30]; omega)) ⟨sm, m, hB, by omega, mm⟩
        · rw [decide_eq_false c, Bool.and_false]
          refine iteP (decide_eq_true (by rw [pw30]; omega)) ⟨_, hB, by rw [List.length_replicate]; exact small (by omega), same_grow nB sm, m + 1, ?_, by omega, ⟨fun h => absurd h (by omega), fun h => by cases h⟩⟩
          rw [upd_same, List.replicate_succ']
      obtain ⟨sm6, b, hB, lb, mb'⟩ := P
      rw [ly, List.take_length] at mb'
      rw [ly] at lb
      refine ⟨N, B, _, _, rfl, rfl, sm6 _ _ hN, hB, by rw [List.length_replicate, List.length_replicate]; exact smallE (by omega), fun G nG => ?_⟩
      have sg := same_upd (o := .lst (List.replicate a (V.int 1) ++ List.replicate b (V.int 1))) nG
      have hG : (upd H6 G (.lst (List.replicate a (V.int 1) ++ List.replicate b (V.int 1)))) G = some (.lst (List.replicate (a + b) (V.int 1))) := by rw [upd_same, List.replicate_append_replicate]
      have s7 := (s5.trans sm6).trans sg
      have hM7 := sg _ _ (sm6 _ _ hM5)
      have hy7 : Paired (RnV (upd H6 G (.lst (List.replicate a (V.int 1) ++ List.replicate b (V.int 1))))) ys rs := Paired.imp (fun _ _ h => h.tk fun b xs e => sg _ _ (sm6 _ _ e)) hy5
      generalize upd H6 G (.lst (List.replicate a (V.int 1) ++ List.replicate b (V.int 1))) = H7 at *
      refine ⟨_, rfl, _, rfl, _, rfl, 1, rfl, M, _, rfl, .of hM7, fun d nd => ?_⟩
      rw [cut_one1]
      have sd := same_upd (o := .lst (ys.drop 1)) nd
      have hd8 : (upd H7 d (.lst (ys.drop 1))) d = some (.lst (ys.drop 1)) := upd_same
      have s8 := s7.trans sd
      have hM8 := sd _ _ hM7
      have hG8 := sd _ _ hG
      have hy8 : Paired (RnV (upd H7 d (.lst (ys.drop 1)))) ys rs := Paired.imp (fun _ _ h => h.tk fun b xs e => sd _ _ e) hy7
      generalize upd H7 d (.lst (ys.drop 1)) = H8 at *
      refine ⟨M, d, _, _, rfl, .of hM8, .of hd8, fun C nC => lc_gen (J := Itz K M d) (n := rs.length - 1) (fun i H' => Same H8 H' ∧ ∃ m : Nat, H' C = some (.lst (List.replicate m (.int 1))) ∧ m ≤ i ∧ (m = 0 ↔ ((List.range i).all fun i => !samE rs i) = true)) ⟨same_upd nC, 0, upd_same, Nat.le_refl _, ⟨(fun _ => rfl), (fun _ => rfl)⟩⟩ (fun i H' hi hP => ⟨_, _, _, _, .of (hP.1 _ _ hM8), .of (hP.1 _ _ hd8), List.getElem?_eq_getElem (by omega), List.getElem?_eq_getElem (by rw [List.length_drop]; omega)⟩) (fun H' hP => ⟨_, _, .of (hP.1 _ _ hM8), .of (hP.1 _ _ hd8), .inr (by rw [List.length_drop]; omega)⟩) (fun i x H9 H10 hi hP y => ?_) (fun H9 hP => ?_)⟩
      · obtain ⟨sm, m, hC, lm, mm⟩ := hP
        obtain ⟨t, x, y, rfl, nt, rfl, hx, hy'⟩ := y
        have hx := hx _ (.of (sm _ _ hM8))
        have hy' := hy' _ (.of (sm _ _ hd8))
        rw [List.getElem?_drop] at hy'
        obtain ⟨r1, er1, t1, rfl, ht1⟩ := Paired.at hy8 hx
        obtain ⟨r2, er2, t2, rfl, ht2⟩ := Paired.at hy8 hy'
        rw [Nat.add_comm] at er2
        have st := same_upd (o := .tup [.ref t1, .ref t2]) nt
        have sam : samE rs i = decide (r1.1 = r2.1) := by
          unfold samE
          rw [List.getD_eq_getElem?_getD, er1, List.getD_eq_getElem?_getD, er2]
          rfl
        rw [List.range_succ, List.all_append, List.all_cons, List.all_nil, Bool.and_true, sam]
        refine ⟨t, _, rfl, .of upd_same, rfl, _, _, rfl, _, _, rfl, rfl, rfl, _, rfl, t1, _, 0, _, rfl, rfl, .of (st _ _ (sm _ _ ht1)), rfl, _, rfl, t2, _, 0, _, rfl, rfl, .of (st _ _ (sm _ _ ht2)), rfl, rfl, _, rfl, ?_⟩
        by_cases c : r1.1 = r2.1
        · rw [decide_eq_true c, Bool.not_true, Bool.and_false]
          refine iteP (decide_eq_true (congrArg V.str c)) ⟨_, st _ _ hC, by rw [List.length_replicate]; exact small (by omega), same_grow nC (sm.trans st), m + 1, ?_, by omega, ⟨fun h => absurd h (by omega), fun h => by cases h⟩⟩
          rw [upd_same, List.replicate_succ']
        · rw [decide_eq_false c, Bool.not_false, Bool.and_true]
          exact iteN (decide_eq_false fun e => c (V.str.inj e)) ⟨sm.trans st, m, st _ _ hC, by omega, mm⟩
      obtain ⟨sm9, c, hC, lc, mc⟩ := hP
      have s9 := s8.trans sm9
      refine ⟨G, C, _, _, rfl, rfl, sm9 _ _ hG8, hC, by rw [List.length_replicate, List.length_replicate]; exact smallE (by omega), fun I nI => ?_⟩
      have si := same_upd (o := .lst (List.replicate (a + b) (V.int 1) ++ List.replicate c (V.int 1))) nI
      have hI : (upd H9 I (.lst (List.replicate (a + b) (V.int 1) ++ List.replicate c (V.int 1)))) I = some (.lst (List.replicate (a + b + c) (V.int 1))) := by rw [upd_same, List.replicate_append_replicate]
      have s10 := s9.trans si
      have hM10 := si _ _ (sm9 _ _ hM8)
      have hy10 : Paired (RnV (upd H9 I (.lst (List.replicate (a + b) (V.int 1) ++ List.replicate c (V.int 1))))) ys rs := Paired.imp (fun _ _ h => h.tk fun b xs e => si _ _ (sm9 _ _ e)) hy8
      generalize upd H9 I (.lst (List.replicate (a + b) (V.int 1) ++ List.replicate c (V.int 1))) = H10 at *
      refine ⟨_, rfl, Nat.zero_le _, fun e ne => eq_nil (same_upd ne _ _ hI) upd_same ⟨_, rfl, ?_⟩⟩
      have se := same_upd (o := .lst []) ne
      have s11 := s10.trans se
      have hM11 := se _ _ hM10
      have hy11 : Paired (RnV (upd H10 e (.lst []))) ys rs := Paired.imp (fun _ _ h => h.tk fun b xs z => se _ _ z) hy10
      generalize upd H10 e (.lst []) = H11 at *
      have kb : ∀ r ∈ rs, kindB r.1 = true := fun r hr => by
        obtain ⟨i, hi⟩ := List.mem_iff_getElem?.mp hr
        obtain ⟨w, _, h⟩ := mr i r hi
        exact (run_kind h).1
      have fine : a + b + c = 0 → rs.length ≤ 400 → (ws.all exO && (Dat.lst (rs.map dR)).seq) = true := fun z0 l4 => by
        have ha := ma.mp (by omega)
        rw [seq_dR kb fun r hr => ?_, ha, decide_eq_true l4, mb'.mp (by omega), mc.mp (by omega)]
        · rfl
        · obtain ⟨i, hi⟩ := List.mem_iff_getElem?.mp hr
          obtain ⟨w, ew, h⟩ := mr i r hi
          exact ex_pos h (List.all_eq_true.mp ha w (List.mem_of_getElem? ew))
      have wrong : ¬ (a + b + c = 0 ∧ rs.length ≤ 400) → (ws.all exO && (Dat.lst (rs.map dR)).seq) = false := fun h => by
        cases ha : ws.all exO with
        | false => rfl
        | true =>
          rw [Bool.true_and, seq_dR kb fun r hr => ?_]
          · apply Bool.eq_false_iff.mpr
            intro hh
            rw [Bool.and_eq_true, Bool.and_eq_true] at hh
            have h1 := ma.mpr ha
            have h2 := mb'.mpr hh.2.1
            have h3 := mc.mpr hh.2.2
            exact h ⟨by omega, of_decide_eq_true hh.1⟩
          · obtain ⟨i, hi⟩ := List.mem_iff_getElem?.mp hr
            obtain ⟨w, ew, h⟩ := mr i r hi
            exact ex_pos h (List.all_eq_true.mp ha w (List.mem_of_getElem? ew))
      have no : ¬ (a + b + c = 0 ∧ rs.length ≤ 400) → Q (.str "error None") H11 := fun h => q _ _ s11 (by
        rw [wrong h]
        show Rp _ _ (.str (errS none))
        rw [errS_none]
        exact .str _)
      by_cases z0 : a + b + c = 0
      · refine iteP (decide_eq_true z0) ⟨_, rfl, M, _, rfl, .inl (.of hM11), _, _, rfl, rfl, _, rfl, ?_⟩
        by_cases l4 : rs.length ≤ 400
        · refine iteP (decide_eq_true (by omega)) ⟨_, rfl, q _ _ s11 ?_⟩
          rw [fine z0 l4]
          exact .lst hM11 (RnV.rp hy11)
        · exact iteN (decide_eq_false (by omega)) (no fun h => l4 h.2)
      · exact iteN (decide_eq_false z0) (iteF (no fun h => z0 h.1))
end
end UP

set_option Elab.async false
set_option linter.all false
set_option maxRecDepth 100000
set_option maxHeartbeats 4000000
set_option pp.maxSteps 400
namespace UP
open PySem PySem.Spec PyProof.Rows L2
/-- a text without long words -/
structure LxO (M L : Nat) (l : List Nat) : Prop where
  f : frL M 0 l = true
  len : l.length ≤ L
  c : ∀ c ∈ l, c < 1114112
def TxO (M L : Nat) (z : Str) : Prop := LxO M L (TL.tl z)
theorem LxO.app {M N L J : Nat} {a b : List Nat} (h : LxO M L a) (k : LxO N J b) : LxO (M + N) (L + J) (a ++ b) :=
  ⟨fr_app k.f a 0 h.f, by rw [List.length_append]; have := h.len; have := k.len; omega, fun c hc => (List.mem_append.mp hc).elim (h.c c) (k.c c)⟩
theorem LxO.mono {M N L J : Nat} {a : List Nat} (h : LxO M L a) (m : M ≤ N) (j : L ≤ J) : LxO N J a := ⟨fr_mono _ _ _ h.f m (Nat.zero_le _), Nat.le_trans h.len j, h.c⟩
theorem LxO.take {M L n : Nat} {a : List Nat} (h : LxO M L a) : LxO M (min n a.length) (a.take n) :=
  ⟨fr_pre (a.take n) (a.drop n) 0 (by rw [List.take_append_drop]; exact h.f), by rw [List.length_take]; exact Nat.le_refl _, fun c hc => h.c c (List.mem_of_mem_take hc)⟩
theorem LxO.drop {M L n : Nat} {a : List Nat} (h : LxO M L a) : LxO M (a.length - n) (a.drop n) :=
  ⟨fr_suf (a.take n) (a.drop n) 0 (by rw [List.take_append_drop]; exact h.f), by rw [List.length_drop]; exact Nat.le_refl _, fun c hc => h.c c (List.mem_of_mem_drop hc)⟩
theorem lx_one {c : Nat} (h : c < 1114112) : LxO 1 1 [c] := ⟨fr_one c, Nat.le_refl _, fun x hx => by rw [List.mem_singleton.mp hx]; exact h⟩
theorem tl_pre (z : Str) (n : Nat) : TL.tl (cutS z none (some (n : Int))) = (TL.tl z).take n := by
  unfold cutS
  rw [HT.sIx_nat, HT.sIx_none]
  show ((TL.tl z).drop 0).take (min n z.length - 0) = _
  rw [List.drop_zero, Nat.sub_zero, TL.len_tl, ← List.take_eq_take_min]
theorem tl_suf (z : Str) (n : Nat) : TL.tl (cutS z (some (n : Int)) none) = (TL.tl z).drop n := by
  unfold cutS
  rw [HT.sIx_nat, HT.sIx_none]
  show ((TL.tl z).drop (min n z.length)).take (z.length - min n z.length) = _
  rw [List.take_of_length_le (by rw [List.length_drop, TL.len_tl]; exact Nat.le_refl _), TL.len_tl]
  by_cases h : n ≤ (TL.tl z).length
  · rw [Nat.min_eq_left h]
  · rw [Nat.min_eq_right (by omega), List.drop_of_length_le (Nat.le_refl _), List.drop_of_length_le (by omega)]
theorem tx_ins {M L n : Nat} {z : Str} {c : Nat} (h : TxO M L z) (hc : c < 1114112) : TxO (2 * M + 1) (L + 1) (cutS z none (some (n : Int)) ++ ⟨#[c]⟩ ++ cutS z (some (n : Int)) none) := by
  unfold TxO
  rw [TL.tl_append, TL.tl_append, tl_pre, tl_suf]
  refine ((LxO.take h).app (lx_one hc) |>.app (LxO.drop (n := n) h)).mono (by omega) ?_
  have := h.len
  omega
theorem tx_del {M L n : Nat} {z : Str} (h : TxO M L z) : TxO (2 * M + 1) (L + 1) (cutS z none (some (n : Int)) ++ cutS z (some ((n + 1 : Nat) : Int)) none) := by
  unfold TxO
  rw [TL.tl_append, tl_pre, tl_suf]
  refine ((LxO.take h).app (LxO.drop (n := n + 1) h)).mono (by omega) ?_
  have := h.len
  omega
theorem tx_rep {M L n : Nat} {z : Str} {c : Nat} (h : TxO M L z) (hc : c < 1114112) : TxO (2 * M + 1) (L + 1) (cutS z none (some (n : Int)) ++ ⟨#[c]⟩ ++ cutS z (some ((n + 1 : Nat) : Int)) none) := by
  unfold TxO
  rw [TL.tl_append, TL.tl_append, tl_pre, tl_suf]
  refine ((LxO.take h).app (lx_one hc) |>.app (LxO.drop (n := n + 1) h)).mono (by omega) ?_
  have := h.len
  omega
/-! ### joined words -/
def wL (ls : List (List Nat)) : Nat := (ls.map fun l => l.length + 1).sum
theorem joinL_len : ∀ {ls : List (List Nat)}, ls ≠ [] → (TL.joinL [32] ls).length + 1 = wL ls
  | [], h => absurd rfl h
  | [w], _ => by
    show w.length + 1 = _
    unfold wL
    simp
  | w :: x :: r, _ => by
    show (w ++ ([32] ++ TL.joinL [32] (x :: r))).length + 1 = _
    have ih := joinL_len (ls := x :: r) (by simp)
    rw [List.length_append, List.length_append]
    show _ = (w.length + 1) + wL (x :: r)
    rw [← ih]
    simp only [List.length_cons, List.length_nil]
    omega
theorem joinL_le (ls : List (List Nat)) : (TL.joinL [32] ls).length ≤ wL ls := by
  cases ls with
  | nil => exact Nat.zero_le _
  | cons w t =>
    have := joinL_len (ls := w :: t) (by simp)
    omega
theorem joinL_mem {c : Nat} : ∀ {ls : List (List Nat)}, c ∈ TL.joinL [32] ls → c = 32 ∨ ∃ l ∈ ls, c ∈ l
  | [], h => by cases h
  | [w], h => .inr ⟨w, List.mem_cons_self .., h⟩
  | w :: x :: r, h => by
    have h : c ∈ w ++ ([32] ++ TL.joinL [32] (x :: r)) := h
    rcases List.mem_append.mp h with h | h
    · exact .inr ⟨w, List.mem_cons_self .., h⟩
    · rcases List.mem_append.mp h with h | h
      · exact .inl (List.mem_singleton.mp h)
      · rcases joinL_mem h with h | ⟨l, hl, h⟩
        · exact .inl h
        · exact .inr ⟨l, List.mem_cons_of_mem _ hl, h⟩
theorem mem_joinL {c : Nat} {l : List Nat} (h : c ∈ l) : ∀ {ls : List (List Nat)}, l ∈ ls → c ∈ TL.joinL [32] ls
  | [w], hl => by
    rw [List.mem_singleton.mp hl] at h
    exact h
  | w :: x :: r, hl => by
    show c ∈ w ++ ([32] ++ TL.joinL [32] (x :: r))
    rcases List.mem_cons.mp hl with e | hl
    · rw [e] at h
      exact List.mem_append_left _ h
    · exact List.mem_append_right _ (List.mem_append_right _ (mem_joinL h hl))
theorem tl_joined (ws : List Str) : TL.tl (Txt.join " " ws) = TL.joinL [32] (ws.map TL.tl) := by
  rw [TL.join_eq, TL.tl_join, tl_sp]
theorem word_chs {z : Str} (h : Chs z) : ∀ w ∈ wordsOf z, Chs w := fun w hw c hc => by
  have e := tl_joined (wordsOf z)
  rw [join_words] at e
  refine h c ?_
  rw [e]
  exact mem_joinL hc (List.mem_map.mpr ⟨w, hw, rfl⟩)
def wS (ws : List Str) : Nat := wL (ws.map TL.tl)
theorem wS_app (a b : List Str) : wS (a ++ b) = wS a + wS b := by
  unfold wS wL
  rw [List.map_append, List.map_append, List.sum_append]
theorem wS_words (z : Str) : wS (wordsOf z) = z.length + 1 := by
  have e := tl_joined (wordsOf z)
  rw [join_words] at e
  have := joinL_len (ls := (wordsOf z).map TL.tl) (fun h => wordsOf_ne z (List.map_eq_nil_iff.mp h))
  rw [← e, ← TL.len_tl] at this
  exact this.symm
theorem wS_rev (a : List Str) : wS a.reverse = wS a := by
  unfold wS wL
  rw [List.map_reverse, List.map_reverse, List.sum_reverse]
theorem tx_join {M : Nat} {ws : List Str} (h : ∀ w ∈ ws, w.length ≤ M ∧ Chs w) : TxO M (wS ws) (Txt.join " " ws) := by
  refine ⟨FrS.join fun w hw => (h w hw).1, ?_, fun c hc => ?_⟩
  · rw [tl_joined]
    exact joinL_le _
  · rw [tl_joined] at hc
    rcases joinL_mem hc with e | ⟨l, hl, e⟩
    · omega
    · obtain ⟨w, hw, rfl⟩ := List.mem_map.mp hl
      exact (h w hw).2 c e
theorem wS_one {M : Nat} {w : Str} (h : w.length ≤ M) : wS [w] ≤ M + 1 := by
  unfold wS wL
  simp only [List.map_cons, List.map_nil, List.sum_cons, List.sum_nil]
  rw [← TL.len_tl]
  omega
theorem wS_part (ws : List Str) (n : Nat) : wS (ws.take n) + wS (ws.drop n) = wS ws := by
  rw [← wS_app, List.take_append_drop]
theorem TxO.okz {M L : Nat} {z : Str} (h : TxO M L z) (m : M ≤ 400) (l : L ≤ 7000) : OkZ z := by
  refine ⟨by rw [TL.len_tl]; exact Nat.le_trans h.len l, fun w hw => ?_, fun w hw => ?_⟩
  all_goals
    unfold wrds at hw
    split at hw
    · cases hw
  · exact Nat.le_trans (FrS.word h.f w hw) m
  · exact word_chs h.c w hw
/-! ### texts in lists, made by cutting and joining -/
section
variable {K : PySem.W.Frag} {σ : L2.St} {H0 : Hp}
def JnE (σ : L2.St) (H0 : Hp) (te : TE) (ys : List Str) : Prop := ∀ H1, Same H0 H1 → ∀ Q : VK, (∀ p H2, Same H1 H2 → H2 p = some (.lst (ys.map V.str)) → Q (.ref p) H2) → te σ H1 Q
def JnS (σ : L2.St) (H0 : Hp) (te : TE) (x : Str) : Prop := ∀ H1, Same H0 H1 → ∀ Q : VK, (∀ H2, Same H1 H2 → Q (.str x) H2) → te σ H1 Q
theorem cut_pre (ws : List Str) (k : Nat) : cutV (ws.map V.str) none (some (k : Int)) = (ws.take k).map V.str := by
  unfold cutV
  rw [HT.sIx_nat, HT.sIx_none, List.drop_zero, Nat.sub_zero, List.map_take, ← List.take_eq_take_min]
theorem cut_suf (ws : List Str) (k : Nat) : cutV (ws.map V.str) (some (k : Int)) none = (ws.drop k).map V.str := by
  unfold cutV
  rw [HT.sIx_nat, HT.sIx_none, List.map_drop, List.take_of_length_le (by rw [List.length_drop]; exact Nat.le_refl _)]
  by_cases h : k ≤ (ws.map V.str).length
  · rw [Nat.min_eq_left h]
  · rw [Nat.min_eq_right (by omega), List.drop_of_length_le (Nat.le_refl _), List.drop_of_length_le (by omega)]
variable {PA : Addr} {ws : List Str} {k i j : Nat}
theorem jn_pre (h1 : σ[i]? = some (some (.ref PA))) (h2 : σ[j]? = some (some (.int (k : Nat)))) (hP : H0 PA = some (.lst (ws.map V.str))) : JnE σ H0 (tSl (rSlL K) (tVar i) tNoPart (tPart (tVar j))) (ws.take k) := fun H1 s Q q =>
  ⟨_, h1, _, h2, _, rfl, PA, _, rfl, .of (s _ _ hP), fun p np => by rw [cut_pre]; exact q p _ (same_upd np) upd_same⟩
theorem jn_suf (h1 : σ[i]? = some (some (.ref PA))) (h2 : σ[j]? = some (some (.int (k : Nat)))) (hP : H0 PA = some (.lst (ws.map V.str))) : JnE σ H0 (tSl (rSlL K) (tVar i) (tPart (tVar j)) tNoPart) (ws.drop k) := fun H1 s Q q =>
  ⟨_, h1, _, h2, _, rfl, PA, _, rfl, .of (s _ _ hP), fun p np => by rw [cut_suf]; exact q p _ (same_upd np) upd_same⟩
theorem jn_pre1 (h1 : σ[i]? = some (some (.ref PA))) (h2 : σ[j]? = some (some (.int (k : Nat)))) (hP : H0 PA = some (.lst (ws.map V.str))) : JnE σ H0 (tSl (rSlL K) (tVar i) tNoPart (tPart (tOp (rI0 fun i j => .int (i + j)) (tVar j) (tC (.int 1))))) (ws.take (k + 1)) := fun H1 s Q q =>
  ⟨_, h1, _, h2, _, _, rfl, rfl, _, rfl, PA, _, rfl, .of (s _ _ hP), fun p np => by rw [show (k : Int) + 1 = ((k + 1 : Nat) : Int) from rfl, cut_pre]; exact q p _ (same_upd np) upd_same⟩
theorem jn_suf1 (h1 : σ[i]? = some (some (.ref PA))) (h2 : σ[j]? = some (some (.int (k : Nat)))) (hP : H0 PA = some (.lst (ws.map V.str))) : JnE σ H0 (tSl (rSlL K) (tVar i) (tPart (tOp (rI0 fun i j => .int (i + j)) (tVar j) (tC (.int 1)))) tNoPart) (ws.drop (k + 1)) := fun H1 s Q q =>
  ⟨_, h1, _, h2, _, _, rfl, rfl, _, rfl, PA, _, rfl, .of (s _ _ hP), fun p np => by rw [show (k : Int) + 1 = ((k + 1 : Nat) : Int) from rfl, cut_suf]; exact q p _ (same_upd np) upd_same⟩
theorem jn_cat {ta tb : TE} {xs ys : List Str} (ha : JnE σ H0 ta xs) (hb : JnE σ H0 tb ys) (l : xs.length + ys.length ≤ 1000000) : JnE σ H0 (tOp rCat ta tb) (xs ++ ys) := fun H1 s Q q =>
  ha H1 s _ fun a H2 s2 h2 => hb H2 (s.trans s2) _ fun b H3 s3 h3 => ⟨a, b, _, _, rfl, rfl, s3 _ _ h2, h3, by rw [List.length_map, List.length_map]; exact smallE l, fun p np => q p _ ((s2.trans s3).trans (same_upd np)) (by rw [upd_same, List.map_append])⟩
theorem jn_rev (h1 : σ[i]? = some (some (.ref PA))) (hP : H0 PA = some (.lst (ws.map V.str))) : JnE σ H0 (tRevL K (tVar i)) ws.reverse := fun H1 s Q q =>
  ⟨_, h1, PA, _, rfl, .of (s _ _ hP), fun p np => q p _ (same_upd np) (by rw [upd_same, List.map_reverse])⟩
theorem sum_wS (ys : List Str) : (ys.map (·.length)).sum + ys.length * (" " : Str).length = wS ys := by
  have e : (" " : Str).length = 1 := by decide +kernel
  rw [e]
  unfold wS wL
  induction ys with
  | nil => rfl
  | cons y t ih =>
    simp only [List.map_cons, List.sum_cons, List.length_cons] at ih ⊢
    rw [← TL.len_tl]
    omega
def rJn (K : PySem.W.Frag) : V → List V → Hp → VK → Prop := fun x xs H Q => ∃ a p, ∃ ys : List Str, x = .str a ∧ xs = [.ref p] ∧ (SqL K H p (ys.map V.str) ∨ SqT K H p (ys.map V.str)) ∧ (ys.map (·.length)).sum + ys.length * a.length ≤ 16777216 ∧ Q (.str (Txt.join a ys)) H
theorem js_join {te : TE} {ys : List Str} (h : JnE σ H0 te ys) (l : wS ys ≤ 16777216) : JnS σ H0 (tM1 (rJn K) (tC (.str " ")) te) (Txt.join " " ys) := fun H1 s Q q =>
  ⟨⟨_, rfl⟩, h H1 s _ fun p H2 s2 h2 => ⟨_, p, ys, rfl, rfl, .inl (.of h2), by rw [sum_wS]; exact l, q H2 s2⟩⟩
theorem jn_lst2 {ta tb : TE} {x y : Str} (ha : JnS σ H0 ta x) (hb : JnS σ H0 tb y) : JnE σ H0 (tLst (tCons ta (tCons tb tNil))) [x, y] := fun H1 s Q q =>
  ha H1 s _ fun H2 s2 => hb H2 (s.trans s2) _ fun H3 s3 => ⟨(by show 2 ≤ sizeLine; decide), fun p np => q p _ ((s2.trans s3).trans (same_upd np)) upd_same⟩
theorem jn_catV {te : TE} {xs ys : List Str} {S : Addr} (h1 : σ[i]? = some (some (.ref S))) (hS : H0 S = some (.lst (xs.map V.str))) (hb : JnE σ H0 te ys) (l : xs.length + ys.length ≤ 1000000) : JnE σ H0 (tOp rCat (tVar i) te) (xs ++ ys) := fun H1 s Q q =>
  ⟨_, h1, hb H1 s _ fun b H3 s3 h3 => ⟨S, b, _, _, rfl, rfl, s3 _ _ (s _ _ hS), h3, by rw [List.length_map, List.length_map]; exact smallE l, fun p np => q p _ (s3.trans (same_upd np)) (by rw [upd_same, List.map_append])⟩⟩
theorem jn_set {t : TE} {ys : List Str} {D : Ends} {rest : TS} (h : JnE σ H0 t ys) (q : ∀ p H2, Same H0 H2 → H2 p = some (.lst (ys.map V.str)) → rest D (σ.set i (some (.ref p))) H2) : tSeq (tAsg t (gName i)) rest D σ H0 := h H0 (Same.refl _) _ fun p H2 s h => q p H2 s h
theorem jgset_go {v : V} {σ' : L2.St} {H : Hp} {k : L2.St → Hp → Prop} (e : σ.set i (some v) = σ') (h : k σ' H) : gName i v σ H k := by
  subst e
  exact h
theorem jnx_go {f bk ct : L2.St → Hp → Prop} {rt : V → Hp → Prop} {H : Hp} (h : f σ H) : ({ nx := f, rt := rt, bk := bk, ct := ct } : Ends).nx σ H := h
theorem jl_two {ta tb : TE} {H : Hp} {Q : VK} (h : ta σ H fun x H1 => tb σ H1 fun y H2 => ([x, y] : List V).length ≤ sizeLine ∧ ∀ p, H2 p = none → Q (.ref p) (upd H2 p (.lst [x, y]))) : tLst (tCons ta (tCons tb tNil)) σ H Q := h
theorem jl_one {ta : TE} {H : Hp} {Q : VK} (h : ta σ H fun x H1 => ([x] : List V).length ≤ sizeLine ∧ ∀ p, H1 p = none → Q (.ref p) (upd H1 p (.lst [x]))) : tLst (tCons ta tNil) σ H Q := h
theorem jo {r : R2} {ta tb : TE} {H : Hp} {Q : VK} (h : ta σ H fun x H1 => tb σ H1 fun y H2 => r x y H2 Q) : tOp r ta tb σ H Q := h
theorem jm1 {te : TE} {H : Hp} {Q : VK} (h : te σ H fun y H2 => rJn K (.str " ") [y] H2 Q) : tM1 (rJn K) (tC (.str " ")) te σ H Q := ⟨⟨_, rfl⟩, h⟩
theorem jv {H : Hp} {Q : VK} {v : V} (h1 : σ[i]? = some (some v)) (q : Q v H) : tVar i σ H Q := ⟨v, h1, q⟩
theorem jset {t : TE} {D : Ends} {rest : TS} {H : Hp} (h : t σ H fun v H1 => rest D (σ.set i (some v)) H1) : tSeq (tAsg t (gName i)) rest D σ H := h
end
end UP

set_option Elab.async false
set_option linter.all false
set_option maxRecDepth 100000
set_option maxHeartbeats 4000000
set_option pp.maxSteps 500
namespace UP
open PySem PySem.Spec PyProof.Rows L2
def menuW : List Str := ["", "-", "?", "a", "A", "a*", "a*0", "a*01", "a*1", "*2", "a*1_0", "abcdefghi", "a+", "a-", "?+", "+", "a**2"]
def signS : Str := " 0123456789*+-?ab\nA_.',"
theorem menu_ok : ∀ x ∈ menuW, x.length ≤ 9 ∧ ∀ c ∈ TL.tl x, c < 1114112 := by decide +kernel
theorem sign_ok : signS.length = 23 ∧ ∀ c ∈ signS.cps.toList, c < 1114112 := by decide +kernel
theorem bag_ne {H : Hp} {p cl a : Addr} {n : Nat} {ys : List Str} (z : Bag H p cl n) (h : H a = some (.lst (ys.map V.str))) : a ≠ p := fun e => by
  obtain ⟨b, h1, _⟩ := z
  rw [e, h1] at h
  cases ys with
  | nil => cases h
  | cons y t => cases h
section
variable {P : Program} {w : World} {K : PySem.W.Frag} {mg : Str → Option Value} {base : Heap}
/-! _law_changed: slots 0:bag 1:text 2:words 3:signs 4:parts 5:one 6:some 7:at 8:sign -/
abbrev s_law_changed : Stmt := topS 64
theorem sc_law_changed : FnScope ["bag", "text", "words", "signs", "parts", "one", "some", "at", "sign"] ["bag", "text"] (defScope s_law_changed) := ⟨rfl, rfl, rfl, by decide +kernel, rfl, by decide +kernel, by decide +kernel⟩
def sp_law_changed : Sp := fun vs H Q _ => ∃ (p cl : Addr) (n M L : Nat) (z : Str), vs = [.ref p, .str z] ∧ Bag H p cl n ∧ n ≤ 100000000 ∧ TxO M L z ∧ 9 ∈ List.range (M + 1) ∧ M ≤ 5000 ∧ L ≤ 5000 ∧
  ∀ (H' : Hp) (y : Str), But p H H' → Bag H' p cl (n + 5) → TxO (2 * M + 1) (L + M + 12) y → Q (.str y) H'
theorem ok_law_changed (D : Df K mg "_law_changed" s_law_changed) (T : Tx mg) (G_law_draw : Has P w K mg base 2 "_law_draw" ["bag", "bound"] sp_law_draw) : Has P w K mg base 3 "_law_changed" ["bag", "text"] sp_law_changed := by
  refine has_of D sc_law_changed (fun _ _ _ _ _ _ us hl => match us, hl with | [_, _], _ => rfl) (fun vs H Q E h => ?_) (fun f cdv A outer s₀ H vs Q E hr h => ?_)
  · obtain ⟨_, _, _, _, _, _, rfl, _⟩ := h
    rfl
  · obtain ⟨p, cl, n, M, L, z, rfl, zb, ln, tz, m9, mM, mL, q⟩ := h
    have m9 : 9 ≤ M := by have := List.mem_range.mp m9; omega
    have lz : z.length ≤ L := by rw [TL.len_tl]; exact tz.len
    have lz' : z.length ≤ sizeLine := smallE (by omega)
    refine ⟨_, (pss_cons (ps_set (i := 2) sc_law_changed.nd rfl (by first | exact Or.inl rfl | exact Or.inr rfl) (pe_lst (pa_cons pe_str (pa_cons pe_str (pa_cons pe_str (pa_cons pe_str (pa_cons pe_str (pa_cons pe_str (pa_cons pe_str (pa_cons pe_str (pa_cons pe_str (pa_cons pe_str (pa_cons pe_str (pa_cons pe_str (pa_cons pe_str (pa_cons pe_str (pa_cons pe_str (pa_cons pe_str pa_nil))))))))))))))))))
    (pss_cons (ps_expr (pe_bm PySem.F.plainAttrs_list PySem.F.slot_list_append PySem.F.type_list_append mt_append (pv 2) (pa_cons pe_str pa_nil)))
    (pss_cons (ps_set (i := 3) sc_law_changed.nd rfl (by first | exact Or.inl rfl | exact Or.inr rfl) pe_str)
    (pss_cons (ps_par (i := 7) (j := 8) (by rfl) sc_law_changed.nd rfl rfl (by decide) rfl rfl (pa_cons (pe_callH G_law_draw (hr.mono (by omega)) (by rfl) (pa_cons (pv 0) (pa_cons (pe_op op_add (pe_callB call_len_str (by rfl) T.n_len (by decide +kernel) (pa_cons (pv 1) pa_nil)) pe_int) pa_nil))) (pa_cons (pe_ix ix_str (pv 3) (pe_callH G_law_draw (hr.mono (by omega)) (by rfl) (pa_cons (pv 0) (pa_cons pe_int pa_nil))) (fun _ _ => rfl)) pa_nil)) (by rfl))
    (pss_cons (ps_set (i := 4) sc_law_changed.nd rfl (by first | exact Or.inl rfl | exact Or.inr rfl) (pe_split (pv 1) pe_str))
    (pss_cons (ps_set (i := 5) sc_law_changed.nd rfl (by first | exact Or.inl rfl | exact Or.inr rfl) (pe_callH G_law_draw (hr.mono (by omega)) (by rfl) (pa_cons (pv 0) (pa_cons (pe_callB call_len_seq (by rfl) T.n_len (by decide +kernel) (pa_cons (pv 4) pa_nil)) pa_nil))))
    (pss_cons (ps_set (i := 6) sc_law_changed.nd rfl (by first | exact Or.inl rfl | exact Or.inr rfl) (pe_lst (pa_cons (pe_op op_add_str (pe_op op_add_str (pe_slice sl_str (pv 1) po_none (po_some (pv 7))) (pv 8)) (pe_slice sl_str (pv 1) (po_some (pv 7)) po_none)) (pa_cons (pe_op op_add_str (pe_slice sl_str (pv 1) po_none (po_some (pv 7))) (pe_slice sl_str (pv 1) (po_some (pe_op op_add (pv 7) pe_int)) po_none)) (pa_cons (pe_op op_add_str (pe_op op_add_str (pe_slice sl_str (pv 1) po_none (po_some (pv 7))) (pv 8)) (pe_slice sl_str (pv 1) (po_some (pe_op op_add (pv 7) pe_int)) po_none)) pa_nil)))))
    (pss_cons (ps_set (i := 6) sc_law_changed.nd rfl (by first | exact Or.inl rfl | exact Or.inr rfl) (pe_op op_cat (pv 6) (pe_lst (pa_cons (pe_join pe_str (pe_op op_cat (pe_slice sl_list (pv 4) po_none (po_some (pv 5))) (pe_slice sl_list (pv 4) (po_some (pe_op op_add (pv 5) pe_int)) po_none))) (pa_cons (pe_join pe_str (pe_op op_cat (pe_slice sl_list (pv 4) po_none (po_some (pe_op op_add (pv 5) pe_int))) (pe_slice sl_list (pv 4) (po_some (pv 5)) po_none))) pa_nil)))))
    (pss_cons (ps_set (i := 6) sc_law_changed.nd rfl (by first | exact Or.inl rfl | exact Or.inr rfl) (pe_op op_cat (pv 6) (pe_lst (pa_cons (pe_join pe_str (pe_revL (pv 4))) (pa_cons (pe_join pe_str (pe_op op_cat (pe_op op_cat (pe_slice sl_list (pv 4) po_none (po_some (pv 5))) (pe_lst (pa_cons (pe_ix ix_list (pv 2) (pe_callH G_law_draw (hr.mono (by omega)) (by rfl) (pa_cons (pv 0) (pa_cons pe_int pa_nil))) (fun _ _ => rfl)) pa_nil))) (pe_slice sl_list (pv 4) (po_some (pe_op op_add (pv 5) pe_int)) po_none))) pa_nil)))))
    (pss_one (ps_ret (pe_ix ix_list (pv 6) (pe_callH G_law_draw (hr.mono (by omega)) (by rfl) (pa_cons (pv 0) (pa_cons pe_int pa_nil))) (fun _ _ => rfl))))))))))))), ?_⟩
    refine ⟨(by show 16 ≤ sizeLine; decide), fun W nW => ?_⟩
    have hW : (upd H W (.lst [V.str "", V.str "-", V.str "?", V.str "a", V.str "A", V.str "a*", V.str "a*0", V.str "a*01", V.str "a*1", V.str "*2", V.str "a*1_0", V.str "abcdefghi", V.str "a+", V.str "a-", V.str "?+", V.str "+"])) W = some (.lst [V.str "", V.str "-", V.str "?", V.str "a", V.str "A", V.str "a*", V.str "a*0", V.str "a*01", V.str "a*1", V.str "*2", V.str "a*1_0", V.str "abcdefghi", V.str "a+", V.str "a-", V.str "?+", V.str "+"]) := upd_same
    refine ⟨_, rfl, .inl ⟨rfl, _, SqL.of hW⟩, W, _, _, rfl, rfl, hW, (by show 16 < sizeLine; decide), ?_⟩
    have nWH := nW
    have b1 : But p H (upd (upd H W (.lst [V.str "", V.str "-", V.str "?", V.str "a", V.str "A", V.str "a*", V.str "a*0", V.str "a*01", V.str "a*1", V.str "*2", V.str "a*1_0", V.str "abcdefghi", V.str "a+", V.str "a-", V.str "?+", V.str "+"])) W (.lst ([V.str "", V.str "-", V.str "?", V.str "a", V.str "A", V.str "a*", V.str "a*0", V.str "a*01", V.str "a*1", V.str "*2", V.str "a*1_0", V.str "abcdefghi", V.str "a+", V.str "a-", V.str "?+", V.str "+"] ++ [.str "a**2"]))) := Same.but (same_grow nW (same_upd nW))
    have z1 : Bag (upd (upd H W (.lst [V.str "", V.str "-", V.str "?", V.str "a", V.str "A", V.str "a*", V.str "a*0", V.str "a*01", V.str "a*1", V.str "*2", V.str "a*1_0", V.str "abcdefghi", V.str "a+", V.str "a-", V.str "?+", V.str "+"])) W (.lst ([V.str "", V.str "-", V.str "?", V.str "a", V.str "A", V.str "a*", V.str "a*0", V.str "a*01", V.str "a*1", V.str "*2", V.str "a*1_0", V.str "abcdefghi", V.str "a+", V.str "a-", V.str "?+", V.str "+"] ++ [.str "a**2"]))) p cl n := zb.same (same_grow nW (same_upd nW))
    have hW : (upd (upd H W (.lst [V.str "", V.str "-", V.str "?", V.str "a", V.str "A", V.str "a*", V.str "a*0", V.str "a*01", V.str "a*1", V.str "*2", V.str "a*1_0", V.str "abcdefghi", V.str "a+", V.str "a-", V.str "?+", V.str "+"])) W (.lst ([V.str "", V.str "-", V.str "?", V.str "a", V.str "A", V.str "a*", V.str "a*0", V.str "a*01", V.str "a*1", V.str "*2", V.str "a*1_0", V.str "abcdefghi", V.str "a+", V.str "a-", V.str "?+", V.str "+"] ++ [.str "a**2"]))) W = some (.lst (menuW.map V.str)) := upd_same
    have Wp := zb.ne nW
    generalize upd (upd H W (.lst [V.str "", V.str "-", V.str "?", V.str "a", V.str "A", V.str "a*", V.str "a*0", V.str "a*01", V.str "a*1", V.str "*2", V.str "a*1_0", V.str "abcdefghi", V.str "a+", V.str "a-", V.str "?+", V.str "+"])) W (.lst ([V.str "", V.str "-", V.str "?", V.str "a", V.str "A", V.str "a*", V.str "a*0", V.str "a*01", V.str "a*1", V.str "*2", V.str "a*1_0", V.str "abcdefghi", V.str "a+", V.str "a-", V.str "?+", V.str "+"] ++ [.str "a**2"])) = H1 at *
    refine ⟨_, rfl, _, rfl, z, rfl, lz', _, _, rfl, rfl, p, cl, n, _, rfl, z1, by omega, by omega, wideB (by omega) (by omega), fun H2 r b2 z2 r0 r1 => ?_⟩
    obtain ⟨i, rfl⟩ : ∃ i : Nat, r = i := ⟨r.toNat, by omega⟩
    have hW := b2 _ _ Wp hW
    have b2 := b1.trans b2
    refine ⟨_, rfl, _, rfl, p, cl, n + 1, _, rfl, z2, by omega, by decide, by decide, fun H3 r b3 z3 r0 r1 => ?_⟩
    obtain ⟨j, rfl⟩ : ∃ j : Nat, r = j := ⟨r.toNat, by omega⟩
    have hW := b3 _ _ Wp hW
    have b3 := b2.trans b3
    have jl : j < signS.cps.toList.length := by
      have := sign_ok.1
      have : signS.cps.toList.length = signS.length := Array.length_toList
      omega
    have hc := sign_ok.2 _ (List.getElem_mem jl)
    refine ⟨signS, _, signS.cps.toList[j], rfl, rfl, (by decide +kernel), atI_ofB (by omega) (List.getElem?_eq_getElem jl), ?_⟩
    generalize signS.cps.toList[j] = c at *
    clear jl
    refine ⟨_, _, rfl, _, rfl, ⟨_, rfl⟩, _, _, rfl, rfl, (by decide +kernel), smallE (by omega), fun PA nPA => ?_⟩
    rw [split_any]
    have sP := same_upd (o := .lst ((wordsOf z).map V.str)) nPA
    have hP : (upd H3 PA (.lst ((wordsOf z).map V.str))) PA = some (.lst ((wordsOf z).map V.str)) := upd_same
    have pP := z3.ne nPA
    have hW := sP _ _ hW
    have b4 := b3.trans (Same.but sP)
    have z4 := z3.same sP
    generalize upd H3 PA (.lst ((wordsOf z).map V.str)) = H4 at *
    have wl := wordsOf_len z
    have wne := wordsOf_ne z
    have wle : ∀ w ∈ wordsOf z, w.length ≤ M ∧ Chs w := fun w hw => ⟨FrS.word tz.f w hw, word_chs tz.c w hw⟩
    have wsum := wS_words z
    generalize wordsOf z = ws at *
    have w1 : 1 ≤ ws.length := List.length_pos_iff.mpr wne
    refine ⟨_, rfl, _, rfl, PA, _, rfl, .inl (.of hP), p, cl, n + 2, _, rfl, z4, by omega, by rw [List.length_map]; omega, by rw [List.length_map]; exact wideB (by omega) (by omega), fun H5 r b5 z5 r0 r1 => ?_⟩
    rw [List.length_map] at r1
    obtain ⟨k, rfl⟩ : ∃ k : Nat, r = k := ⟨r.toNat, by omega⟩
    have hW := b5 _ _ Wp hW
    have hP := b5 _ _ pP hP
    have b5 := b4.trans b5
    have c1 := cutS_length z none (some (i : Int))
    have c2 := cutS_length z (some (i : Int)) none
    have c3 := cutS_length z (some ((i + 1 : Nat) : Int)) none
    have cc : (⟨#[c]⟩ : Str).length = 1 := rfl
    have t1 := tx_ins (n := i) tz hc
    have t2 := tx_del (n := i) tz
    have t3 := tx_rep (n := i) tz hc
    refine ⟨_, rfl, _, rfl, _, rfl, _, rfl, lz', _, rfl, _, _, rfl, rfl, smallE (by omega), _, rfl, _, rfl, _, rfl, _, rfl, lz', _, _, rfl, rfl, smallE (by rw [app_len]; omega), ?_⟩
    refine ⟨_, rfl, _, rfl, _, rfl, _, rfl, lz', _, rfl, _, rfl, _, _, rfl, rfl, _, rfl, _, rfl, lz', _, _, rfl, rfl, smallE (show _ + (cutS z (some ((i + 1 : Nat) : Int)) none).length ≤ _ by omega), ?_⟩
    refine ⟨_, rfl, _, rfl, _, rfl, _, rfl, lz', _, rfl, _, _, rfl, rfl, smallE (by omega), _, rfl, _, rfl, _, _, rfl, rfl, _, rfl, _, rfl, lz', _, _, rfl, rfl, smallE (show _ + (cutS z (some ((i + 1 : Nat) : Int)) none).length ≤ _ by rw [app_len]; omega), ?_⟩
    refine ⟨(by show 3 ≤ sizeLine; decide), fun S1 nS1 => ?_⟩
    have y0 : ∃ x0 x1 x2 : Str, TxO (2 * M + 1) (L + M + 12) x0 ∧ TxO (2 * M + 1) (L + M + 12) x1 ∧ TxO (2 * M + 1) (L + M + 12) x2 ∧ [V.str (cutS z none (some (i : Int)) ++ ⟨#[c]⟩ ++ cutS z (some (i : Int)) none), .str (cutS z none (some (i : Int)) ++ cutS z (some ((i : Int) + 1)) none), .str (cutS z none (some (i : Int)) ++ ⟨#[c]⟩ ++ cutS z (some ((i : Int) + 1)) none)] = [x0, x1, x2].map V.str := ⟨_, _, _, LxO.mono t1 (by omega) (by omega), LxO.mono t2 (by omega) (by omega), LxO.mono t3 (by omega) (by omega), rfl⟩
    obtain ⟨x0, x1, x2, g0, g1, g2, e3⟩ := y0
    rw [e3]
    have s1 := same_upd (o := .lst ([x0, x1, x2].map V.str)) nS1
    have h1 : (upd H5 S1 (.lst ([x0, x1, x2].map V.str))) S1 = some (.lst ([x0, x1, x2].map V.str)) := upd_same
    have pS1 := z5.ne nS1
    have hW := s1 _ _ hW
    have hP := s1 _ _ hP
    have b6 := b5.trans (Same.but s1)
    have z6 := z5.same s1
    generalize upd H5 S1 (.lst ([x0, x1, x2].map V.str)) = H6 at *
    clear t1 t2 t3 c1 c2 c3 e3
    have m1 : ∀ k, ∀ w ∈ ws.take k, w.length ≤ M ∧ Chs w := fun k w hw => wle w (List.mem_of_mem_take hw)
    have m2 : ∀ k, ∀ w ∈ ws.drop k, w.length ≤ M ∧ Chs w := fun k w hw => wle w (List.mem_of_mem_drop hw)
    have m12 : ∀ k j, ∀ w ∈ ws.take k ++ ws.drop j, w.length ≤ M ∧ Chs w := fun k j w hw => (List.mem_append.mp hw).elim (m1 k w) (m2 j w)
    have e1 := wS_part ws k
    have e2 := wS_part ws (k + 1)
    have e3 := wS_part (ws.drop k) 1
    rw [List.drop_drop] at e3
    have bb : wS ((ws.drop k).take 1) ≤ M + 1 := by
      cases hd : ws.drop k with
      | nil => exact Nat.zero_le _
      | cons x t => exact wS_one (m2 k x (by rw [hd]; exact List.mem_cons_self ..)).1
    have lt1 : (ws.take k).length ≤ 5001 := by rw [List.length_take]; omega
    have lt2 : (ws.take (k + 1)).length ≤ 5001 := by rw [List.length_take]; omega
    have ld1 : (ws.drop k).length ≤ 5001 := by rw [List.length_drop]; omega
    have ld2 : (ws.drop (k + 1)).length ≤ 5001 := by rw [List.length_drop]; omega
    have g3 : TxO (2 * M + 1) (L + M + 12) (Txt.join " " (ws.take k ++ ws.drop (k + 1))) := LxO.mono (tx_join (m12 k (k + 1))) (by omega) (by rw [wS_app]; omega)
    have g4 : TxO (2 * M + 1) (L + M + 12) (Txt.join " " (ws.take (k + 1) ++ ws.drop k)) := LxO.mono (tx_join (m12 (k + 1) k)) (by omega) (by rw [wS_app]; omega)
    have g5 : TxO (2 * M + 1) (L + M + 12) (Txt.join " " ws.reverse) := LxO.mono (tx_join fun w hw => wle w (List.mem_reverse.mp hw)) (by omega) (by rw [wS_rev]; omega)
    have g6 : ∀ x ∈ menuW, TxO (2 * M + 1) (L + M + 12) (Txt.join " " (ws.take k ++ [x] ++ ws.drop (k + 1))) := fun x hx => by
      obtain ⟨x1, x2⟩ := menu_ok x hx
      have o1 := wS_one x1
      refine LxO.mono (tx_join fun w hw => ?_) (show M ≤ _ by omega) (by rw [wS_app, wS_app]; omega)
      rcases List.mem_append.mp hw with hw | hw
      · rcases List.mem_append.mp hw with hw | hw
        · exact m1 k w hw
        · rw [List.mem_singleton.mp hw]
          exact ⟨by omega, x2⟩
      · exact m2 (k + 1) w hw
    show gName 6 (V.ref S1) _ H6 _
    refine jgset_go (σ' := [some (.ref p), some (.str z), some (.ref W), some (.str signS), some (.ref PA), some (.int (k : Nat)), some (.ref S1), some (.int (i : Nat)), some (.str ⟨#[c]⟩)]) rfl (jnx_go ?_)
    refine jn_set (ys := [x0, x1, x2] ++ [Txt.join " " (ws.take k ++ ws.drop (k + 1)), Txt.join " " (ws.take (k + 1) ++ ws.drop k)]) (jn_catV rfl h1 (jn_lst2 (js_join (jn_cat (jn_pre (k := k) rfl rfl hP) (jn_suf1 rfl rfl hP) (by omega)) (by rw [wS_app]; omega)) (js_join (jn_cat (jn_pre1 (k := k) rfl rfl hP) (jn_suf rfl rfl hP) (by omega)) (by rw [wS_app]; omega))) (by simp)) fun S2 H7 s7 h2 => ?_
    have hW := s7 _ _ hW
    have hP := s7 _ _ hP
    have b7 := b6.trans (Same.but s7)
    have z7 := z6.same s7
    refine jset (jo (jv rfl (jl_two ?_)))
    refine js_join (jn_rev rfl hP) (by rw [wS_rev]; omega) H7 (Same.refl _) _ fun H8 s8 => ?_
    refine jm1 (jo (jo ?_))
    refine jn_pre (k := k) rfl rfl hP H8 s8 _ fun a H9 s9 ha => ?_
    have s9 := s8.trans s9
    have z9 := z7.same s9
    have hW := s9 _ _ hW
    have hP := s9 _ _ hP
    have h2 := s9 _ _ h2
    have b9 := b7.trans (Same.but s9)
    have pa := bag_ne z9 ha
    have pS2 := bag_ne z9 h2
    refine jl_one (jo (jv rfl ⟨_, rfl, p, cl, n + 3, 17, rfl, z9, by omega, by decide, by decide, fun H10 r b10 z10 r0 r1 => ?_⟩))
    obtain ⟨j, rfl⟩ : ∃ j : Nat, r = j := ⟨r.toNat, by omega⟩
    have jl : j < menuW.length := by
      have : menuW.length = 17 := rfl
      omega
    have hx := g6 _ (List.getElem_mem jl)
    have xl := wS_one (menu_ok _ (List.getElem_mem jl)).1
    have hW := b10 _ _ Wp hW
    have hP := b10 _ _ pP hP
    have ha := b10 _ _ pa ha
    have h2 := b10 _ _ pS2 h2
    have b10 := b9.trans b10
    refine ⟨W, _, _, .str menuW[j], rfl, rfl, .of hW, atI_ofB (by omega) (by rw [List.getElem?_map]; show menuW[j]?.map V.str = _; rw [List.getElem?_eq_getElem jl]; rfl), (by show 1 ≤ sizeLine; decide), fun d1 nx1 => ?_⟩
    generalize menuW[j] = x at *
    have sx := same_upd (o := .lst [.str x]) nx1
    refine ⟨a, d1, _, _, rfl, rfl, sx _ _ ha, upd_same, by rw [List.length_map]; exact smallE (by show _ + 1 ≤ _; omega), fun d2 nx2 => ?_⟩
    have sy := sx.trans (same_upd (o := .lst ((ws.take k).map V.str ++ [.str x])) nx2)
    have hx2 : (upd (upd H10 d1 (.lst [.str x])) d2 (.lst ((ws.take k).map V.str ++ [.str x]))) d2 = some (.lst ((ws.take k ++ [x]).map V.str)) := by rw [upd_same, List.map_append]; rfl
    refine jn_suf1 (k := k) rfl rfl (sy _ _ hP) _ (Same.refl _) _ fun a2 H11 s11 ha2 => ?_
    refine ⟨d2, a2, _, _, rfl, rfl, s11 _ _ hx2, ha2, by rw [List.length_map, List.length_map, List.length_append]; exact smallE (by show _ + 1 + _ ≤ _; omega), fun d3 nx3 => ?_⟩
    have s12 := (sy.trans s11).trans (same_upd (o := .lst ((ws.take k ++ [x]).map V.str ++ (ws.drop (k + 1)).map V.str)) nx3)
    have hx3 : (upd H11 d3 (.lst ((ws.take k ++ [x]).map V.str ++ (ws.drop (k + 1)).map V.str))) d3 = some (.lst ((ws.take k ++ [x] ++ ws.drop (k + 1)).map V.str)) := by rw [upd_same, ← List.map_append]
    generalize upd H11 d3 (.lst ((ws.take k ++ [x]).map V.str ++ (ws.drop (k + 1)).map V.str)) = H12 at *
    refine ⟨_, d3, _, rfl, rfl, .inl (.of hx3), by rw [sum_wS, wS_app, wS_app]; omega, (by show 2 ≤ sizeLine; decide), fun x4 nx4 => ?_⟩
    have s13 := s12.trans (same_upd (o := .lst [.str (Txt.join " " ws.reverse), .str (Txt.join " " (ws.take k ++ [x] ++ ws.drop (k + 1)))]) nx4)
    refine ⟨S2, x4, _, _, rfl, rfl, s13 _ _ h2, upd_same, (by show 5 + 2 ≤ sizeLine; decide), fun x5 nx5 => ?_⟩
    have s14 := s13.trans (same_upd (o := .lst (([x0, x1, x2] ++ [Txt.join " " (ws.take k ++ ws.drop (k + 1)), Txt.join " " (ws.take (k + 1) ++ ws.drop k)]).map V.str ++ [.str (Txt.join " " ws.reverse), .str (Txt.join " " (ws.take k ++ [x] ++ ws.drop (k + 1)))])) nx5)
    have hL : ∃ ys : List Str, ys.length = 7 ∧ (∀ y ∈ ys, TxO (2 * M + 1) (L + M + 12) y) ∧ (upd (upd H12 x4 (.lst [.str (Txt.join " " ws.reverse), .str (Txt.join " " (ws.take k ++ [x] ++ ws.drop (k + 1)))])) x5 (.lst (([x0, x1, x2] ++ [Txt.join " " (ws.take k ++ ws.drop (k + 1)), Txt.join " " (ws.take (k + 1) ++ ws.drop k)]).map V.str ++ [.str (Txt.join " " ws.reverse), .str (Txt.join " " (ws.take k ++ [x] ++ ws.drop (k + 1)))]))) x5 = some (.lst (ys.map V.str)) := by
      refine ⟨[x0, x1, x2, Txt.join " " (ws.take k ++ ws.drop (k + 1)), Txt.join " " (ws.take (k + 1) ++ ws.drop k), Txt.join " " ws.reverse, Txt.join " " (ws.take k ++ [x] ++ ws.drop (k + 1))], rfl, fun y hy => ?_, upd_same⟩
      simp only [List.mem_cons, List.not_mem_nil, or_false] at hy
      rcases hy with rfl | rfl | rfl | rfl | rfl | rfl | rfl
      · exact g0
      · exact g1
      · exact g2
      · exact g3
      · exact g4
      · exact g5
      · exact hx
    obtain ⟨ys, l7, all, hL⟩ := hL
    have z14 := z10.same s14
    have b14 := b10.trans (Same.but s14)
    generalize upd (upd H12 x4 (.lst [.str (Txt.join " " ws.reverse), .str (Txt.join " " (ws.take k ++ [x] ++ ws.drop (k + 1)))])) x5 (.lst (([x0, x1, x2] ++ [Txt.join " " (ws.take k ++ ws.drop (k + 1)), Txt.join " " (ws.take (k + 1) ++ ws.drop k)]).map V.str ++ [.str (Txt.join " " ws.reverse), .str (Txt.join " " (ws.take k ++ [x] ++ ws.drop (k + 1)))])) = H14 at *
    refine ⟨_, rfl, _, rfl, p, cl, n + 4, 7, rfl, z14, by omega, by decide, by decide, fun H15 r b15 z15 r0 r1 => ?_⟩
    obtain ⟨j, rfl⟩ : ∃ j : Nat, r = j := ⟨r.toNat, by omega⟩
    have jl : j < ys.length := by omega
    refine ⟨x5, _, _, .str ys[j], rfl, rfl, .of (b15 _ _ (bag_ne z14 hL) hL), atI_ofB (by omega) (by rw [List.getElem?_map]; show ys[j]?.map V.str = _; rw [List.getElem?_eq_getElem jl]; rfl), ?_⟩
    exact q _ _ (b14.trans b15) z15 (all _ (List.getElem_mem jl))
end
end UP

set_option Elab.async false
set_option linter.all false
set_option maxRecDepth 100000
set_option maxHeartbeats 4000000
namespace UP
open PySem PySem.Spec PyProof.Rows L2
/-! ### repr of values that hold an empty dict -/
mutual
def Dat.py : Dat → PyData
  | .non => .none
  | .bl b => .bool b
  | .int n => .int n
  | .str z => .str z
  | .dic => .dict []
  | .lst l => .list (Dat.pys l)
  | .tup l => .tuple (Dat.pys l)
def Dat.pys : List Dat → List PyData
  | [] => []
  | x :: t => x.py :: Dat.pys t
end
def RpK (prog : Program) (w : World) (h : Heap) (u : Value) (d : PyData) : Prop :=
  (∃ as, Reads h u d as) ∧ (d.showable = true → d.shown.length ≤ sizeLine → ∃ bs, ReadAtMost h d.depth bs ∧ ReprK prog w bs h d.depth u d.shown)
def RpKs (prog : Program) (w : World) (h : Heap) (us : List Value) (ds : List PyData) : Prop :=
  (∃ as, ReadsAll h us ds as) ∧ (PyData.showableAll ds = true → (∀ t ∈ PyData.shownAll ds, t.length ≤ sizeLine) → ∃ bs, ReadAtMost h (PyData.depthAll ds) bs ∧ ReprAllK prog w bs h (PyData.depthAll ds) us (PyData.shownAll ds))
theorem dic_reads {X : Cx} {pins : List (Addr × Obj)} {σ : L2.St} {H : Hp} {s : Shared} {a : Addr} (I : Inv X pins σ H s) (e : H a = some (.dK [])) : ∃ o n, s.heap.get? a = some o ∧ o.cls = .type "dict" ∧ o.data = .dict #[] n ∧ (a == sysModules) = false := by
  obtain ⟨_, hs, vs, kv, o, es, ep, ho, ex, hd, _, hp, _⟩ := dk_of I.hok e
  cases kv
  obtain ⟨l⟩ := es
  have hp : Pairs (mixKind X.prog X.w) l [] := hp
  cases l with
  | nil => exact ⟨o, ep, ho, ex.1, hd, hs⟩
  | cons x t => cases hp
theorem RpKs.cons {prog : Program} {w : World} {h : Heap} {u : Value} {us : List Value} {d : PyData} {ds : List PyData} (h1 : RpK prog w h u d) (h2 : RpKs prog w h us ds) : RpKs prog w h (u :: us) (d :: ds) := by
  obtain ⟨⟨as, r⟩, k1⟩ := h1
  obtain ⟨⟨bs, rs⟩, k2⟩ := h2
  refine ⟨⟨_, .cons r rs⟩, fun hs hz => ?_⟩
  have hs' : d.showable = true ∧ PyData.showableAll ds = true := by simpa [PyData.showableAll] using hs
  obtain ⟨b1, hb1, k1⟩ := k1 hs'.1 (hz _ (by simp only [PyData.shownAll]; exact List.mem_cons_self ..))
  obtain ⟨b2, hb2, k2⟩ := k2 hs'.2 (fun t ht => hz t (by simp only [PyData.shownAll]; exact List.mem_cons_of_mem _ ht))
  refine ⟨b1 ++ b2, ?_, ?_⟩
  · simp only [PyData.depthAll]
    exact (hb1.mono (Nat.le_max_left _ _)).append (hb2.mono (Nat.le_max_right _ _))
  · simp only [PyData.depthAll, PyData.shownAll]
    exact .cons ((k1.more fun b hb => List.mem_append_left _ hb).level_le (Nat.le_max_left _ _)) (k2.more_le (fun b hb => List.mem_append_right _ hb) (Nat.le_max_right _ _))
theorem RpK.list {prog : Program} {w : World} {h : Heap} {a : Addr} {o : Obj} {its : List Value} {n : Nat} {ds : List PyData} (h1 : h.get? a = some o) (h2 : o.cls = .type "list") (h3 : o.data = .seq its.toArray n) (k : RpKs prog w h its ds) : RpK prog w h (.ref a) (.list ds) := by
  obtain ⟨⟨as, h4⟩, k⟩ := k
  have r : Reads h (.ref a) (.list ds) _ := .list h1 h2 h3 h4
  refine ⟨⟨_, r⟩, fun hs hz => ?_⟩
  have hz' : (listText (PyData.shownAll ds)).length ≤ sizeLine := by simpa only [PyData.shown] using hz
  obtain ⟨bs, hb, hk⟩ := k (by simpa [PyData.showable] using hs) (fun t ht => Nat.le_trans (listText_mem_le ht) hz')
  have hna : a ∉ bs := not_mem_of_deeper r (by simp only [PyData.depth]; omega) hb
  refine ⟨a :: bs, ReadAtMost.cons r (by simp only [PyData.depth]; omega) hb, ?_⟩
  simp only [PyData.depth, PyData.shown]
  cases its with
  | nil =>
    have h4' : ReadsAll h [] ds _ := h4
    cases h4'
    simp only [PyData.shownAll, listText_nil]
    exact ReprK.listEmpty h1 h2 h3
  | cons x l => exact ReprK.list h1 h2 h3 hna (by simpa using hk.length_eq) (fun i y e => hk.item i y (by simpa using e))
theorem RpK.tuple {prog : Program} {w : World} {h : Heap} {a : Addr} {o : Obj} {its : List Value} {n : Nat} {ds : List PyData} (h1 : h.get? a = some o) (h2 : o.cls = .type "tuple") (h3 : o.data = .seq its.toArray n) (k : RpKs prog w h its ds) : RpK prog w h (.ref a) (.tuple ds) := by
  obtain ⟨⟨as, h4⟩, k⟩ := k
  have r : Reads h (.ref a) (.tuple ds) _ := .tuple h1 h2 h3 h4
  refine ⟨⟨_, r⟩, fun hs hz => ?_⟩
  have hz' : (tupleText (PyData.shownAll ds)).length ≤ sizeLine := by simpa only [PyData.shown] using hz
  obtain ⟨bs, hb, hk⟩ := k (by simpa [PyData.showable] using hs) (fun t ht => Nat.le_trans (tupleText_mem_le ht) hz')
  have hna : a ∉ bs := not_mem_of_deeper r (by simp only [PyData.depth]; omega) hb
  refine ⟨a :: bs, ReadAtMost.cons r (by simp only [PyData.depth]; omega) hb, ?_⟩
  simp only [PyData.depth, PyData.shown]
  exact ReprK.tuple h1 h2 h3 hna hk
theorem RpK.dict {prog : Program} {w : World} {h : Heap} {a : Addr} {o : Obj} {n : Nat} (h1 : h.get? a = some o) (h2 : o.cls = .type "dict") (h3 : o.data = .dict #[] n) (hs : (a == sysModules) = false) : RpK prog w h (.ref a) (.dict []) := by
  have r : Reads h (.ref a) (.dict []) _ := .dict h1 h2 h3 .nil .nil
  refine ⟨⟨_, r⟩, fun _ _ => ⟨[a], ?_, ?_⟩⟩
  · intro b hb
    rw [List.mem_singleton.mp hb]
    exact ⟨_, _, r, Nat.le_refl _⟩
  · exact ReprK.dict h1 h2 h3 hs (fun z => by cases z) .nil
theorem Rp.reprK {X : Cx} {pins : List (Addr × Obj)} {σ : L2.St} {H : Hp} {s : Shared} (I : Inv X pins σ H s) {v : V} {d : Dat} (h : Rp H v d) : ∀ u, RelV v u → RpK X.prog X.w s.heap u d.py := by
  refine Rp.rec (motive_1 := fun v d _ => ∀ u, RelV v u → RpK X.prog X.w s.heap u d.py) (motive_2 := fun xs l _ => ∀ us, Vals xs us → RpKs X.prog X.w s.heap us (Dat.pys l)) ?_ ?_ ?_ ?_ ?_ ?_ ?_ ?_ ?_ h
  · intro u r
    cases r
    exact ⟨⟨_, .none⟩, fun hs hz => ReprK.of_reads .none hs (fun z => by cases z) hz⟩
  · intro b u r
    cases r
    exact ⟨⟨_, .bool b⟩, fun hs hz => ReprK.of_reads (.bool b) hs (fun z => by cases z) hz⟩
  · intro n u r
    obtain ⟨t, rfl⟩ := r
    exact ⟨⟨_, .int n t⟩, fun hs hz => ReprK.of_reads (.int n t) hs (fun z => by cases z) hz⟩
  · intro n u r
    obtain ⟨t, rfl⟩ := r
    exact ⟨⟨_, .str n t⟩, fun hs hz => ReprK.of_reads (.str n t) hs (fun z => by cases z) hz⟩
  · intro a e u r
    cases r
    obtain ⟨o, n, h1, h2, h3, h4⟩ := dic_reads I e
    exact RpK.dict h1 h2 h3 h4
  · intro a xs l e _ ih u r
    cases r
    obtain ⟨its, rv, ⟨o, n, ho, hc, _, hd⟩, _⟩ := I.list (SqL.of e)
    exact RpK.list ho hc hd (ih its rv)
  · intro a xs l e _ ih u r
    cases r
    obtain ⟨its, rv, ⟨o, ho, hc, n, hd⟩, _⟩ := I.tuple (SqT.of e)
    exact RpK.tuple ho hc hd (ih its rv)
  · intro us r
    cases r
    exact ⟨⟨_, .nil⟩, fun _ _ => ⟨[], (fun _ h => nomatch h), by simp only [Dat.pys, PyData.shownAll]; exact .nil⟩⟩
  · intro x y xs ys _ _ h1 h2 us r
    cases r with
    | cons r1 r2 => exact RpKs.cons (h1 _ r1) (h2 _ r2)
/-- repr(xs), xs a list or a tuple of such values -/
def rReprR : List V → Hp → VK → Prop := fun xs H Q => ∃ (a : Addr) (d : Dat), xs = [.ref a] ∧ Rp H (.ref a) d ∧ d.py.showable = true ∧ d.py.depth ≤ 64 ∧ d.py.shown.length ≤ sizeLine ∧ Q (.str d.py.shown) H
theorem call_reprR {X : Cx} (hg : X.A.guards = some []) (hu : X.A.units + 70 < cLine) : CallR X (.builtin "repr") rReprR := by
  intro pins s σ H xs us Q I r h
  obtain ⟨a, d, rfl, hr, sh, dp, sz, q⟩ := h
  obtain ⟨u, rfl, ru⟩ := vals1 r
  cases (show u = Value.ref a from ru)
  have fin : ∀ h' u tk, (∀ b o, s.heap.get? b = some o → h'.get? b = some o) → EP X pins σ Q (.str d.py.shown u) { s with heap := h', toks := tk } := fun h' u tk hk => ⟨.str d.py.shown, H, I.kept (t' := tk) hk, ⟨u, rfl⟩, q⟩
  cases hr with
  | dic e =>
    obtain ⟨o, n, h1, h2, h3, h4⟩ := dic_reads I e
    have rd : Reads s.heap (.ref a) (.dict []) _ := .dict h1 h2 h3 .nil .nil
    exact repr_of_reads' rd sh (fun _ z => by
      have z : sysModules ∈ [a] := z
      rw [List.mem_singleton.mp z] at h4
      simp at h4) hg (by show X.A.units + ((PyData.dict []).depth + 1) < cLine; have : (PyData.dict []).depth ≤ 64 := dp; omega) (fun _ _ e => e) fin sz
  | @lst _ xs l e hp =>
    obtain ⟨its, rv, ⟨o, n, ho, hc, _, hd⟩, _⟩ := I.list (SqL.of e)
    have all : ∀ {xs : List V} {l : List Dat}, Paired (Rp H) xs l → ∀ us, Vals xs us → RpKs X.prog X.w s.heap us (Dat.pys l) := by
      intro xs l hp
      induction hp with
      | nil =>
        intro us r
        cases r
        exact ⟨⟨_, .nil⟩, fun _ _ => ⟨[], (fun _ h => nomatch h), by simp only [Dat.pys, PyData.shownAll]; exact .nil⟩⟩
      | cons h1 _ ih =>
        intro us r
        cases r with
        | cons r1 r2 => exact RpKs.cons (h1.reprK I _ r1) (ih _ r2)
    have k := all hp its rv
    obtain ⟨⟨as, h4⟩, k⟩ := k
    have sz' : (listText (PyData.shownAll (Dat.pys l))).length ≤ sizeLine := by simpa only [Dat.py, PyData.shown] using sz
    obtain ⟨bs, hb, hk⟩ := k (by simpa [Dat.py, PyData.showable] using sh) (fun t ht => Nat.le_trans (listText_mem_le ht) sz')
    have r : Reads s.heap (.ref a) (.list (Dat.pys l)) _ := .list ho hc hd h4
    have hna : a ∉ bs := not_mem_of_deeper r (by simp only [PyData.depth]; omega) hb
    have dp' : PyData.depthAll (Dat.pys l) + 1 ≤ 64 := by simpa only [Dat.py, PyData.depth] using dp
    simp only [Dat.py, PyData.shown] at fin
    refine call_repr_slot (by omega) ⟨o, ho, hc⟩ F.slot_list_repr.toG ?_
    cases its with
    | nil =>
      have h4' : ReadsAll s.heap [] (Dat.pys l) _ := h4
      cases hl : Dat.pys l with
      | nil =>
        rw [hl] at fin
        simp only [PyData.shownAll, listText_nil] at fin
        exact call_list_repr_empty ⟨o, ho, hc⟩ ho hd ⟨_, _, rfl, fin s.heap _ _ fun _ _ e => e⟩
      | cons x t =>
        rw [hl] at h4'
        cases h4'
    | cons x t =>
      exact call_list_reprK ho hc hd hna (by simpa using hk.length_eq) (fun i y e => hk.item i y (by simpa using e)) (g := []) hg (fun b _ => Clear.nil b) (by show X.A.units + 1 + _ < cLine; omega) (fun _ _ e => e) (fun h' u tk hk => ⟨_, _, rfl, fin h' u tk hk⟩) sz'
  | @tup _ xs l e hp =>
    obtain ⟨its, rv, ⟨o, ho, hc, n, hd⟩, _⟩ := I.tuple (SqT.of e)
    have all : ∀ {xs : List V} {l : List Dat}, Paired (Rp H) xs l → ∀ us, Vals xs us → RpKs X.prog X.w s.heap us (Dat.pys l) := by
      intro xs l hp
      induction hp with
      | nil =>
        intro us r
        cases r
        exact ⟨⟨_, .nil⟩, fun _ _ => ⟨[], (fun _ h => nomatch h), by simp only [Dat.pys, PyData.shownAll]; exact .nil⟩⟩
      | cons h1 _ ih =>
        intro us r
        cases r with
        | cons r1 r2 => exact RpKs.cons (h1.reprK I _ r1) (ih _ r2)
    have k := all hp its rv
    obtain ⟨⟨as, h4⟩, k⟩ := k
    have sz' : (tupleText (PyData.shownAll (Dat.pys l))).length ≤ sizeLine := by simpa only [Dat.py, PyData.shown] using sz
    obtain ⟨bs, hb, hk⟩ := k (by simpa [Dat.py, PyData.showable] using sh) (fun t ht => Nat.le_trans (tupleText_mem_le ht) sz')
    have r : Reads s.heap (.ref a) (.tuple (Dat.pys l)) _ := .tuple ho hc hd h4
    have hna : a ∉ bs := not_mem_of_deeper r (by simp only [PyData.depth]; omega) hb
    have dp' : PyData.depthAll (Dat.pys l) + 1 ≤ 64 := by simpa only [Dat.py, PyData.depth] using dp
    simp only [Dat.py, PyData.shown] at fin
    refine call_repr_slot (by omega) ⟨o, ho, hc⟩ F.slot_tuple_repr ?_
    exact call_tuple_reprK ho hc hd hna hk (g := []) hg (fun b _ => Clear.nil b) (by show X.A.units + 1 + _ < cLine; omega) (fun _ _ e => e) (fun h' u tk hk => ⟨_, _, rfl, fin h' u tk hk⟩) sz'
end UP

set_option Elab.async false
set_option linter.all false
set_option maxRecDepth 100000
set_option maxHeartbeats 4000000
namespace UP
open PySem PySem.Spec PyProof.Rows L2
/-! ### written values -/
def Lit (σ : L2.St) (H0 : Hp) (t : TE) (d : Dat) : Prop := ∀ H (Q : VK), Same H0 H → (∀ H' v, Same H H' → Rp H' v d → Q v H') → t σ H Q
def Lits (σ : L2.St) (H0 : Hp) (t : TA) (ds : List Dat) : Prop := ∀ H (Q : List V → Hp → Prop), Same H0 H → (∀ H' vs, Same H H' → Paired (Rp H') vs ds → Q vs H') → t σ H Q
section
variable {σ : L2.St} {H0 : Hp}
theorem Lit.go {H : Hp} {t : TE} {d : Dat} {Q : VK} (h : Lit σ H t d) (q : ∀ H' v, Same H H' → Rp H' v d → Q v H') : t σ H Q := h H Q (Same.refl _) q
theorem lit_non : Lit σ H0 (tC .non) .non := fun H Q _ q => q H _ (Same.refl _) .non
theorem lit_int {n : Int} : Lit σ H0 (tC (.int n)) (.int n) := fun H Q _ q => q H _ (Same.refl _) (.int n)
theorem lit_bl {b : Bool} : Lit σ H0 (tC (.bl b)) (.bl b) := fun H Q _ q => q H _ (Same.refl _) (.bl b)
theorem lit_str {z : Str} : Lit σ H0 (tC (.str z)) (.str z) := fun H Q _ q => q H _ (Same.refl _) (.str z)
theorem lit_dic : Lit σ H0 tDNewK .dic := fun H Q _ q p np => q _ _ (same_upd np) (.dic upd_same)
theorem lit_var {i : Nat} {v : V} {d : Dat} (e : σ[i]? = some (some v)) (h : Rp H0 v d) : Lit σ H0 (tVar i) d := fun H Q s q => ⟨v, e, q H v (Same.refl _) (h.same s)⟩
theorem lit_val {t : TE} {v : V} {d : Dat} (h : ∀ H (Q : VK), Q v H → t σ H Q) (r : ∀ H, Rp H v d) : Lit σ H0 t d := fun H Q _ q => h H Q (q H v (Same.refl _) (r H))
theorem lits_nil : Lits σ H0 tNil [] := fun H Q _ q => q H [] (Same.refl _) .nil
theorem lits_cons {t : TE} {ts : TA} {d : Dat} {ds : List Dat} (h1 : Lit σ H0 t d) (h2 : Lits σ H0 ts ds) : Lits σ H0 (tCons t ts) (d :: ds) := fun H Q s q => h1 H _ s fun H1 v s1 r1 => h2 H1 _ (s.trans s1) fun H2 vs s2 r2 => q H2 (v :: vs) (s1.trans s2) (.cons (r1.same s2) r2)
theorem rps_same {H H' : Hp} {xs : List V} {ds : List Dat} (s : Same H H') (h : Paired (Rp H) xs ds) : Paired (Rp H') xs ds := Paired.imp (fun _ _ => Rp.same s) h
theorem lit_lst {ts : TA} {ds : List Dat} (h : Lits σ H0 ts ds) (l : ds.length ≤ 1000) : Lit σ H0 (tLst ts) (.lst ds) := fun H Q s q => h H _ s fun H1 vs s1 r => ⟨by rw [Paired.len r]; exact smallE (by omega), fun p np => q _ _ (s1.trans (same_upd np)) (.lst upd_same (rps_same (same_upd np) r))⟩
theorem lit_tup {ts : TA} {ds : List Dat} (h : Lits σ H0 ts ds) (l : ds.length ≤ 1000) : Lit σ H0 (tTup ts) (.tup ds) := fun H Q s q => h H _ s fun H1 vs s1 r => ⟨by rw [Paired.len r]; exact smallE (by omega), fun p np => q _ _ (s1.trans (same_upd np)) (.tup upd_same (rps_same (same_upd np) r))⟩
theorem lit_cat {t u : TE} {a b : List Dat} (h1 : Lit σ H0 t (.lst a)) (h2 : Lit σ H0 u (.lst b)) (l : a.length + b.length ≤ 1000) : Lit σ H0 (tOp rCat t u) (.lst (a ++ b)) := fun H Q s q => h1 H _ s fun H1 v s1 r1 => h2 H1 _ (s.trans s1) fun H2 w s2 r2 => by
  cases r1.same s2 with
  | lst e1 p1 =>
    cases r2 with
    | lst e2 p2 =>
      refine ⟨_, _, _, _, rfl, rfl, e1, e2, ?_, fun p np => q _ _ (s1.trans (s2.trans (same_upd np))) (.lst upd_same (rps_same (same_upd np) (Paired.app p1 p2)))⟩
      rw [Paired.len p1, Paired.len p2]
      exact smallE (by omega)
theorem rep_pair {α β : Type} {F : α → β → Prop} {xs : List α} {ys : List β} (h : Paired F xs ys) : ∀ n : Nat, Paired F (List.replicate n xs).flatten (List.replicate n ys).flatten
  | 0 => .nil
  | n + 1 => by
    rw [List.replicate_succ, List.replicate_succ, List.flatten_cons, List.flatten_cons]
    exact Paired.app h (rep_pair h n)
theorem lit_rep {t : TE} {a : List Dat} {k : Int} (h1 : Lit σ H0 t (.lst a)) (k0 : 0 ≤ k) (k1 : k ≤ 1000) (l : a.length * k.toNat ≤ 1000) : Lit σ H0 (tOp rRep t (tC (.int k))) (.lst (List.replicate k.toNat a).flatten) := fun H Q s q => h1 H _ s fun H1 v s1 r1 => by
  cases r1 with
  | lst e1 p1 =>
    refine ⟨_, k, _, rfl, rfl, e1, by omega, by omega, ?_, fun p np => q _ _ (s1.trans (same_upd np)) (.lst upd_same (rps_same (same_upd np) (rep_pair p1 _)))⟩
    rw [Paired.len p1]
    exact smallE (by omega)
end
/-- an index into a written list -/
theorem rp_at {H : Hp} {v : V} {ds : List Dat} {i : Int} (h : Rp H v (.lst ds)) (i0 : 0 ≤ i) (i1 : i.toNat < ds.length) : ∃ a xs x, v = .ref a ∧ H a = some (.lst xs) ∧ atI xs i = some x ∧ Rp H x ds[i.toNat] := by
  cases h with
  | lst e p =>
    obtain ⟨x, ex, hx⟩ := Paired.at' p (List.getElem?_eq_getElem i1)
    exact ⟨_, _, x, rfl, e, atI_ofB i0 ex, hx⟩
theorem lit_set {t : TE} {d : Dat} {i : Nat} {D : Ends} {rest : TS} {σ : L2.St} {H : Hp} (h : Lit σ H t d) (q : ∀ H' v, Same H H' → Rp H' v d → rest D (σ.set i (some v)) H') : tSeq (tAsg t (gName i)) rest D σ H := h H _ (Same.refl _) q
theorem lit_retIx {K : PySem.W.Frag} {t u : TE} {ds : List Dat} {D : Ends} {σ : L2.St} {H : Hp} (h : Lit σ H t (.lst ds)) (q : ∀ H' v, Same H H' → Rp H' v (.lst ds) → u σ H' (fun y H2 => rIxL K v y H2 D.rt)) : tRet (tOp (rIxL K) t u) D σ H := h H _ (Same.refl _) q
end UP

set_option Elab.async false
set_option linter.all false
set_option maxRecDepth 100000
set_option maxHeartbeats 4000000
set_option pp.maxSteps 400
set_option exponentiation.threshold 500
namespace UP
open PySem PySem.Spec PyProof.Rows L2
/-! ### what is found can be shown -/
structure Fz (s n : Nat) (d : PyData) : Prop where
  dep : d.depth ≤ n
  sho : d.showable = true
  len : d.shown.length ≤ s
theorem Fz.mono {s n s' n' : Nat} {d : PyData} (h : Fz s n d) (a : s ≤ s') (b : n ≤ n') : Fz s' n' d := ⟨Nat.le_trans h.dep b, h.sho, Nat.le_trans h.len a⟩
theorem fz_all {s n : Nat} : ∀ {ds : List PyData}, (∀ d ∈ ds, Fz s n d) → PyData.depthAll ds ≤ n ∧ PyData.showableAll ds = true ∧ ((PyData.shownAll ds).map (·.length)).sum + 2 * (PyData.shownAll ds).length ≤ ds.length * (s + 2)
  | [], _ => ⟨by rw [PyData.depthAll]; exact Nat.zero_le _, by rw [PyData.showableAll], by rw [PyData.shownAll]; simp⟩
  | d :: t, h => by
    obtain ⟨h1, h2, h3⟩ := fz_all (ds := t) fun x hx => h x (List.mem_cons_of_mem _ hx)
    have h0 := h d (List.mem_cons_self ..)
    refine ⟨?_, ?_, ?_⟩
    · rw [PyData.depthAll]
      exact Nat.max_le.mpr ⟨h0.dep, h1⟩
    · rw [PyData.showableAll, h0.sho, h2]
      rfl
    · rw [PyData.shownAll]
      have := h0.len
      simp only [List.map_cons, List.sum_cons, List.length_cons]
      rw [Nat.add_mul]
      omega
theorem fz_list {s n m : Nat} {ds : List PyData} (h : ∀ d ∈ ds, Fz s n d) (l : ds.length ≤ m) : Fz (m * (s + 2) + 3) (n + 1) (.list ds) := by
  obtain ⟨h1, h2, h3⟩ := fz_all h
  have h4 : ds.length * (s + 2) ≤ m * (s + 2) := Nat.mul_le_mul_right _ l
  refine ⟨by rw [PyData.depth]; omega, by rw [PyData.showable]; exact h2, ?_⟩
  rw [PyData.shown]
  have := listText_len_le (PyData.shownAll ds)
  omega
theorem fz_tup {s n m : Nat} {ds : List PyData} (h : ∀ d ∈ ds, Fz s n d) (l : ds.length ≤ m) : Fz (m * (s + 2) + 3) (n + 1) (.tuple ds) := by
  obtain ⟨h1, h2, h3⟩ := fz_all h
  have h4 : ds.length * (s + 2) ≤ m * (s + 2) := Nat.mul_le_mul_right _ l
  refine ⟨by rw [PyData.depth]; omega, by rw [PyData.showable]; exact h2, ?_⟩
  rw [PyData.shown]
  have := tupleText_len_le (PyData.shownAll ds)
  omega
theorem fz_none : Fz 4 0 .none := ⟨Nat.le_refl _, rfl, by decide +kernel⟩
theorem fz_str {x : Str} {n : Nat} (l : x.length ≤ n) (h : ∀ c ∈ x.cps.toList, c < 16 ^ 8) : Fz (10 * n + 2) 0 (.str x) := by
  refine ⟨by rw [PyData.depth]; exact Nat.le_refl _, by rw [PyData.showable], ?_⟩
  rw [PyData.shown]
  have := StrLaws.reprText_len x h
  omega
theorem fz_int {i : Int} {n : Nat} (h0 : i.natAbs.log2 < 1920) (h : (nS i).length ≤ n) : Fz n 0 (.int i) := by
  refine ⟨by rw [PyData.depth]; exact Nat.le_refl _, by rw [PyData.showable]; exact decide_eq_true h0, ?_⟩
  rw [PyData.shown]
  exact h
theorem kind_chs {k : Str} (h : kindB k = true) : k.length ≤ 8 ∧ ∀ c ∈ k.cps.toList, c < 16 ^ 8 := by
  unfold kindB at h
  rw [Bool.and_eq_true] at h
  have h1 := of_decide_eq_true h.1
  refine ⟨by omega, fun c hc => ?_⟩
  have := of_decide_eq_true (List.all_eq_true.mp h.2 c hc)
  have e : (16 : Nat) ^ 8 = 4294967296 := by decide
  omega
theorem fz_run {z : Str} {r : Run} (h : runO z = some r) (l : z.length ≤ 400) : Fz 900 1 (dR r).py := by
  have kb := (run_kind h).1
  obtain ⟨k1, k2⟩ := kind_chs kb
  show Fz 900 1 (.tuple [.str r.1, .int r.2])
  refine (fz_tup (s := 401) (n := 0) (m := 2) (fun d hd => ?_) (Nat.le_refl _)).mono (by decide) (Nat.le_refl _)
  rcases List.mem_cons.mp hd with e | e
  · rw [e]
    exact (fz_str k1 k2).mono (by decide) (Nat.le_refl _)
  · rw [List.mem_singleton.mp e]
    exact fz_int (run_log h l) (run_len h l)
theorem fz_en {w : Str} {e : En} (h : entO w = some e) : Fz 400 1 (enD e).py := by
  have act : ∀ b : Bool, Fz 100 0 (.str (actS b)) := fun b => by
    cases b
    · exact (fz_str (n := 6) (by decide +kernel) (by decide +kernel)).mono (by decide) (Nat.le_refl _)
    · exact (fz_str (n := 6) (by decide +kernel) (by decide +kernel)).mono (by decide) (Nat.le_refl _)
  have ko : Fz 100 0 (koD e.1).py := by
    rcases ent_cases w with ⟨_, e0⟩ | ⟨a, c, _, _, e0⟩
    · rw [e0] at h; cases h
    rw [e0] at h
    split at h
    · split at h
      · cases h
        exact fz_none.mono (by decide) (Nat.le_refl _)
      · split at h
        · rename_i kb
          cases h
          obtain ⟨k1, k2⟩ := kind_chs kb
          exact (fz_str k1 k2).mono (by decide) (Nat.le_refl _)
        · cases h
    · cases h
  show Fz 400 1 (.tuple [(koD e.1).py, .str (actS e.2)])
  refine (fz_tup (s := 100) (n := 0) (m := 2) (fun d hd => ?_) (Nat.le_refl _)).mono (by decide) (Nat.le_refl _)
  rcases List.mem_cons.mp hd with e | e
  · rw [e]; exact ko
  · rw [List.mem_singleton.mp e]; exact act _
theorem pys_map (l : List Dat) : Dat.pys l = l.map Dat.py := by
  induction l with
  | nil => rw [Dat.pys]; rfl
  | cons x t ih => rw [Dat.pys, ih]; rfl
theorem fz_err {o : Option Nat} (h : ∀ i, o = some i → i < 1000000) : Fz 400 2 (.str (errS o)) := by
  refine (fz_str (n := 16) ?_ fun c hc => ?_).mono (by decide) (by decide)
  · show ("error " ++ oS o : Str).length ≤ 16
    rw [app_len]
    have := oS_len h
    have e : ("error " : Str).length = 6 := by decide +kernel
    omega
  · have hc : c ∈ TL.tl (("error " : Str) ++ oS o) := hc
    rw [TL.tl_append] at hc
    have e : (16 : Nat) ^ 8 = 4294967296 := by decide
    rcases List.mem_append.mp hc with hc | hc
    · exact (show ∀ c ∈ TL.tl ("error " : Str), c < 16 ^ 8 by decide +kernel) c hc
    · cases o with
      | none => exact (show ∀ c ∈ TL.tl ("None" : Str), c < 16 ^ 8 by decide +kernel) c hc
      | some i =>
        have hc : c ∈ TL.tl (nS (i : Int)) := hc
        rw [tl_nS] at hc
        have := TL.numL_digits i c hc
        omega
theorem fz_seq {z : Str} (ok : OkZ z) : Fz 400000 2 (outD (seqZ z)).py := by
  have at' : ∀ o i, seqZ z = .err o → o = some i → i < 1000000 := out_at (d := .str z) (fun _ _ => seqZ_at) fun z' e => by cases e; exact ⟨ok.l, fun w hw => by have := ok.w w hw; omega⟩
  cases e : seqZ z with
  | err o => exact (fz_err fun i => at' o i e).mono (by decide) (Nat.le_refl _)
  | ok x =>
    unfold seqZ at e
    split at e
    · cases e
    · split at e
      · rename_i hb c
        cases e
        rw [Bool.and_eq_true] at c
        have l4 : ((runsZ z).map dR).length ≤ 400 := by
          have h : (decide (((((runsZ z).map dR).length : Nat) : Int) ≤ 400) && _) = true := c.2
          rw [Bool.and_eq_true] at h
          have := of_decide_eq_true h.1
          omega
        show Fz _ _ (.list (Dat.pys ((runsZ z).map dR)))
        rw [pys_map]
        refine (fz_list (s := 900) (n := 1) (m := 400) (fun d hd => ?_) (by rw [List.length_map]; exact l4)).mono (by decide) (Nat.le_refl _)
        obtain ⟨x, hx, rfl⟩ := List.mem_map.mp hd
        obtain ⟨r, hr, rfl⟩ := List.mem_map.mp hx
        obtain ⟨w, hw, h⟩ := List.mem_filterMap.mp hr
        exact fz_run h (ok.w w hw)
      · cases e
theorem fz_st {z : Str} (ok : OkZ z) : Fz 400000 2 (outD (stZ z)).py := by
  have at' : ∀ o i, stZ z = .err o → o = some i → i < 1000000 := out_at (d := .str z) (fun _ _ => stZ_at) fun z' e => by cases e; exact ⟨ok.l, fun w hw => by have := ok.w w hw; omega⟩
  cases e : stZ z with
  | err o => exact (fz_err fun i => at' o i e).mono (by decide) (Nat.le_refl _)
  | ok x =>
    unfold stZ at e
    split at e
    · cases e
    · have hw := ok.w
      generalize wrds z = ws at *
      rcases ws with _ | ⟨a, _ | ⟨b, t⟩⟩
      · cases e
      · have e : (if exO a = true then Out.ok (runD (runO a)) else .err none) = .ok x := e
        split at e
        · cases e
          cases er : runO a with
          | none => exact fz_none.mono (by decide) (by decide)
          | some r => exact (fz_run er (hw a (List.mem_cons_self ..))).mono (by decide) (by decide)
        · cases e
      · cases e
theorem fz_rec {z : Str} (ok : OkZ z) : Fz 400000 2 (outD (recZ z)).py := by
  have at' : ∀ o i, recZ z = .err o → o = some i → i < 1000000 := out_at (d := .str z) (fun _ _ => recZ_at) fun z' e => by cases e; exact ⟨ok.l, fun w hw => by have := ok.w w hw; omega⟩
  cases e : recZ z with
  | err o => exact (fz_err fun i => at' o i e).mono (by decide) (Nat.le_refl _)
  | ok x =>
    unfold recZ at e
    split at e
    · cases e
    · split at e
      · rename_i hb c
        cases e
        show Fz _ _ (.list (Dat.pys (((wrds z).filterMap entO).map enD)))
        rw [pys_map]
        refine (fz_list (s := 400) (n := 1) (m := 400) (fun d hd => ?_) ?_).mono (by decide) (Nat.le_refl _)
        · obtain ⟨x, hx, rfl⟩ := List.mem_map.mp hd
          obtain ⟨r, hr, rfl⟩ := List.mem_map.mp hx
          obtain ⟨w, hw, h⟩ := List.mem_filterMap.mp hr
          exact fz_en h
        · rw [List.length_map, List.length_map]
          exact Nat.le_trans (List.length_filterMap_le _ _) c
      · cases e
def dueD (z : Str) : Dat := .lst [outD (seqZ z), outD (stZ z), outD (recZ z)]
theorem due_fits {z : Str} (ok : OkZ z) : (dueD z).py.showable = true ∧ (dueD z).py.depth ≤ 64 ∧ (dueD z).py.shown.length ≤ sizeLine := by
  have h : Fz (3 * (400000 + 2) + 3) 3 (.list [(outD (seqZ z)).py, (outD (stZ z)).py, (outD (recZ z)).py]) := fz_list (fun d hd => by
    simp only [List.mem_cons, List.not_mem_nil, or_false] at hd
    rcases hd with rfl | rfl | rfl
    · exact fz_seq ok
    · exact fz_st ok
    · exact fz_rec ok) (Nat.le_refl _)
  exact ⟨h.sho, Nat.le_trans h.dep (by decide), Nat.le_trans h.len (by rw [sizeLine_eq]; decide)⟩
end UP

set_option Elab.async false
set_option linter.all false
set_option maxRecDepth 100000
set_option maxHeartbeats 4000000
set_option pp.maxSteps 400
namespace UP
open PySem PySem.Spec PyProof.Rows L2
def repS (z : Str) (n : Int) : Str := ⟨(List.replicate n.toNat z.cps).foldl (· ++ ·) #[]⟩
theorem rep_size (a : Array Nat) : ∀ (n : Nat) (acc : Array Nat), ((List.replicate n a).foldl (· ++ ·) acc).size = acc.size + n * a.size
  | 0, acc => by simp
  | n + 1, acc => by
    rw [List.replicate_succ, List.foldl_cons, rep_size a n, Array.size_append, Nat.succ_mul]
    omega
section
variable {X : Cx}
theorem op_rep_str : OpR X (binaryOp .Mult) (fun x y H Q => ∃ (z : Str) (n : Int), x = .str z ∧ y = .int n ∧ 2 ≤ n ∧ n ≤ 1000 ∧ 1 ≤ z.length ∧ z.length ≤ 1000 ∧ Q (.str (repS z n)) H) := by
  intro pins s σ H x y v u Q I rx ry h
  obtain ⟨z, n, rfl, rfl, n2, n1, z1, z2, q⟩ := h
  obtain ⟨t, rfl⟩ := rx
  obtain ⟨t', rfl⟩ := ry
  have c0 : ¬ n < 1 := by omega
  have c1 : (n == 1 || z.length == 0) = false := by
    rw [Bool.or_eq_false_iff]
    exact ⟨beq_eq_false_iff_ne.mpr (by omega), beq_eq_false_iff_ne.mpr (by omega)⟩
  have big : z.length * n.toNat ≤ 1000000 := Nat.le_trans (Nat.mul_le_mul z2 (show n.toNat ≤ 1000 by omega)) (by decide)
  refine PySem.P.mul_str ?_ (fun _ _ => ?_) (fun _ _ => ?_) ?_
  · rw [decide_eq_false (by omega), decide_eq_false (by omega)]
    rfl
  · have h1 : (1000 : Int) ≤ (2 ^ 63 - 1) / n := (Int.le_ediv_iff_mul_le (by omega)).mpr (by omega)
    omega
  · exact PyProof.Rows.short24 (by omega)
  · rw [if_neg c0, if_neg (by rw [c1]; decide)]
    refine ⟨?_, .str (repS z n), H, I.tok _, ⟨_, rfl⟩, q⟩
    refine Nat.le_of_lt (small ?_)
    show (repS z n).cps.size ≤ _
    unfold repS
    rw [rep_size]
    show 0 + n.toNat * z.length ≤ _
    rw [Nat.mul_comm]
    omega
end

/-! ### the long texts -/
def lo0 : Str := repS "a b " 200 ++ "a"
def lo1 : Str := repS "a+ " 400 ++ "a+"
def lo2 : Str := repS "a b " 200 ++ "A"
def lo3 : Str := "a*1" ++ repS "0" 30 ++ "1"
def lo4 : Str := repS "a+ " 400 ++ "A"
def lo5 : Str := "B " ++ repS "a+ " 400 ++ "a+"
def lo6 : Str := repS "a " 300 ++ "A"
def lo7 : Str := "A " ++ repS "a b " 200 ++ "a"
theorem lo0_eq : lo0 = repS "a b " 200 ++ "a" := rfl
theorem lo1_eq : lo1 = repS "a+ " 400 ++ "a+" := rfl
theorem lo2_eq : lo2 = repS "a b " 200 ++ "A" := rfl
theorem lo3_eq : lo3 = "a*1" ++ repS "0" 30 ++ "1" := rfl
theorem lo4_eq : lo4 = repS "a+ " 400 ++ "A" := rfl
theorem lo5_eq : lo5 = "B " ++ repS "a+ " 400 ++ "a+" := rfl
theorem lo6_eq : lo6 = repS "a " 300 ++ "A" := rfl
theorem lo7_eq : lo7 = "A " ++ repS "a b " 200 ++ "a" := rfl
theorem readZ0 (z : Str) : readZ 0 (.str z) = seqZ z := rfl
theorem readZ1 (z : Str) : readZ 1 (.str z) = stZ z := rfl
theorem readZ2 (z : Str) : readZ 2 (.str z) = recZ z := rfl
theorem tl_rep (u : Str) (n : Int) : TL.tl (repS u n) = (List.replicate n.toNat (TL.tl u)).flatten := by
  have gen : ∀ (n : Nat) (acc : Array Nat), ((List.replicate n u.cps).foldl (· ++ ·) acc).toList = acc.toList ++ (List.replicate n u.cps.toList).flatten := fun n => by
    induction n with
    | zero => intro acc; simp
    | succ n ih =>
      intro acc
      rw [List.replicate_succ, List.foldl_cons, ih, List.replicate_succ, List.flatten_cons, Array.toList_append, List.append_assoc]
  exact gen n.toNat #[]
def putW (w : Str) : List Nat := TL.tl w ++ [32]
theorem flat_rep (ws : List Str) : ∀ n : Nat, (((List.replicate n ws).flatten).map putW).flatten = (List.replicate n ((ws.map putW).flatten)).flatten
  | 0 => rfl
  | n + 1 => by rw [List.replicate_succ, List.flatten_cons, List.map_append, List.flatten_append, flat_rep ws n, List.replicate_succ, List.flatten_cons]
theorem joinL_snoc (z : List Nat) : ∀ L : List (List Nat), TL.joinL [32] (L ++ [z]) = (L.map (· ++ [32])).flatten ++ z
  | [] => rfl
  | [w] => by
    show w ++ ([32] ++ z) = ((w ++ [32]) ++ []) ++ z
    simp
  | w :: x :: r => by
    show w ++ ([32] ++ TL.joinL [32] ((x :: r) ++ [z])) = ((w ++ [32]) ++ ((x :: r).map (· ++ [32])).flatten) ++ z
    rw [joinL_snoc z (x :: r)]
    simp
theorem wrds_of {t : Str} {L : List Str} {z : Str} (ht : TL.tl t = (L.map putW).flatten ++ TL.tl z) (hL : ∀ w ∈ L ++ [z], 32 ∉ TL.tl w) (ne : TL.tl z ≠ []) : wrds t = L ++ [z] := by
  have nt : t ≠ "" := fun e => by
    rw [e] at ht
    have e0 : TL.tl ("" : Str) = [] := by decide +kernel
    rw [e0] at ht
    exact ne (List.append_eq_nil_iff.mp ht.symm).2
  have e : t = Txt.join " " (L ++ [z]) := TL.ext_tl (by
    rw [tl_joined, List.map_append]
    show _ = TL.joinL [32] (L.map TL.tl ++ [TL.tl z])
    rw [joinL_snoc, List.map_map, ht]
    rfl)
  unfold wrds
  rw [if_neg nt, e]
  exact words_join (by simp) hL
theorem mem_rep {w : Str} {ws : List Str} {n : Nat} (h : w ∈ (List.replicate n ws).flatten) : w ∈ ws := by
  obtain ⟨l, hl, hw⟩ := List.mem_flatten.mp h
  rw [List.eq_of_mem_replicate hl] at hw
  exact hw
theorem len_rep (ws : List Str) (n : Nat) : ((List.replicate n ws).flatten).length = n * ws.length := by
  induction n with
  | zero => simp
  | succ n ih => rw [List.replicate_succ, List.flatten_cons, List.length_append, ih, Nat.succ_mul]; omega
def abs : List Str := (List.replicate 200 ([("a" : Str), ("b" : Str)] : List Str)).flatten
def aps : List Str := (List.replicate 400 [("a+" : Str)]).flatten
def as3 : List Str := (List.replicate 300 [("a" : Str)]).flatten
theorem abs_len : abs.length = 400 := len_rep _ _
theorem aps_len : aps.length = 400 := len_rep _ _
theorem as3_len : as3.length = 300 := len_rep _ _
theorem tl_abs : TL.tl (repS "a b " 200) = (abs.map putW).flatten := by
  unfold abs
  rw [tl_rep, flat_rep, show ((["a", "b"] : List Str).map putW).flatten = TL.tl ("a b " : Str) by decide +kernel]
  rfl
theorem tl_aps : TL.tl (repS "a+ " 400) = (aps.map putW).flatten := by
  unfold aps
  rw [tl_rep, flat_rep, show ((["a+"] : List Str).map putW).flatten = TL.tl ("a+ " : Str) by decide +kernel]
  rfl
theorem tl_as3 : TL.tl (repS "a " 300) = (as3.map putW).flatten := by
  unfold as3
  rw [tl_rep, flat_rep, show ((["a"] : List Str).map putW).flatten = TL.tl ("a " : Str) by decide +kernel]
  rfl
theorem m_abs {w : Str} (h : w ∈ abs) : w = "a" ∨ w = "b" := by
  have := mem_rep h
  simpa using this
theorem m_aps {w : Str} (h : w ∈ aps) : w = "a+" := by
  have := mem_rep h
  simpa using this
theorem m_as3 {w : Str} (h : w ∈ as3) : w = "a" := by
  have := mem_rep h
  simpa using this
/-- a word that is short and has no blank in it -/
def okW (w : Str) : Bool := decide (w.length ≤ 600) && decide (32 ∉ TL.tl w)
theorem okW_abs {w : Str} (h : w ∈ abs) : okW w = true := by rcases m_abs h with rfl | rfl <;> decide +kernel
theorem okW_aps {w : Str} (h : w ∈ aps) : okW w = true := by rw [m_aps h]; decide +kernel
theorem okW_as3 {w : Str} (h : w ∈ as3) : okW w = true := by rw [m_as3 h]; decide +kernel
theorem words_of {t : Str} {L : List Str} {z : Str} (ht : TL.tl t = (L.map putW).flatten ++ TL.tl z) (hL : ∀ w ∈ L, okW w = true) (hz : (okW z && decide (TL.tl z ≠ [])) = true) (l : t.length ≤ 7000) : wrds t = L ++ [z] ∧ OkTxt (.str t) := by
  rw [Bool.and_eq_true] at hz
  have all : ∀ w ∈ L ++ [z], okW w = true := fun w hw => (List.mem_append.mp hw).elim (hL w) fun h => by rw [List.mem_singleton.mp h]; exact hz.1
  have e := wrds_of ht (fun w hw => by
    have := all w hw
    unfold okW at this
    rw [Bool.and_eq_true] at this
    exact of_decide_eq_true this.2) (of_decide_eq_true hz.2)
  refine ⟨e, fun z' e' => ?_⟩
  cases e'
  refine ⟨l, fun w hw => ?_⟩
  rw [e] at hw
  have := all w hw
  unfold okW at this
  rw [Bool.and_eq_true] at this
  exact of_decide_eq_true this.1
theorem len_repS (u : Str) (n : Int) : (repS u n).length = n.toNat * u.length := by
  show (repS u n).cps.size = _
  unfold repS
  rw [rep_size]
  show 0 + n.toNat * u.length = _
  omega
theorem ab_len : (repS "a b " 200).length = 800 := len_repS _ _
theorem ap_len : (repS "a+ " 400).length = 1200 := len_repS _ _
theorem a3_len : (repS "a " 300).length = 600 := len_repS _ _
theorem w0 : wrds lo0 = abs ++ [("a" : Str)] ∧ OkTxt (.str lo0) := words_of (by unfold lo0; rw [TL.tl_append, tl_abs]) (fun _ h => okW_abs h) (by decide +kernel) (by unfold lo0; rw [app_len, ab_len]; decide +kernel)
theorem w1 : wrds lo1 = aps ++ [("a+" : Str)] ∧ OkTxt (.str lo1) := words_of (by unfold lo1; rw [TL.tl_append, tl_aps]) (fun _ h => okW_aps h) (by decide +kernel) (by unfold lo1; rw [app_len, ap_len]; decide +kernel)
theorem w2 : wrds lo2 = abs ++ [("A" : Str)] ∧ OkTxt (.str lo2) := words_of (by unfold lo2; rw [TL.tl_append, tl_abs]) (fun _ h => okW_abs h) (by decide +kernel) (by unfold lo2; rw [app_len, ab_len]; decide +kernel)
theorem w4 : wrds lo4 = aps ++ [("A" : Str)] ∧ OkTxt (.str lo4) := words_of (by unfold lo4; rw [TL.tl_append, tl_aps]) (fun _ h => okW_aps h) (by decide +kernel) (by unfold lo4; rw [app_len, ap_len]; decide +kernel)
theorem w5 : wrds lo5 = (("B" : Str) :: aps) ++ [("a+" : Str)] ∧ OkTxt (.str lo5) := words_of (by unfold lo5; rw [TL.tl_append, TL.tl_append, tl_aps, List.map_cons, List.flatten_cons, show putW "B" = TL.tl ("B " : Str) by decide +kernel]) (fun w h => (List.mem_cons.mp h).elim (fun e => by rw [e]; decide +kernel) okW_aps) (by decide +kernel) (by unfold lo5; rw [app_len, app_len, ap_len]; decide +kernel)
theorem w6 : wrds lo6 = as3 ++ [("A" : Str)] ∧ OkTxt (.str lo6) := words_of (by unfold lo6; rw [TL.tl_append, tl_as3]) (fun _ h => okW_as3 h) (by decide +kernel) (by unfold lo6; rw [app_len, a3_len]; decide +kernel)
theorem w7 : wrds lo7 = (("A" : Str) :: abs) ++ [("a" : Str)] ∧ OkTxt (.str lo7) := words_of (by unfold lo7; rw [TL.tl_append, TL.tl_append, tl_abs, List.map_cons, List.flatten_cons, show putW "A" = TL.tl ("A " : Str) by decide +kernel]) (fun w h => (List.mem_cons.mp h).elim (fun e => by rw [e]; decide +kernel) okW_abs) (by decide +kernel) (by unfold lo7; rw [app_len, app_len, ab_len]; decide +kernel)
theorem bad_last {p : Str → Bool} {L : List Str} {z : Str} (hL : ∀ w ∈ L, p w = true) (hz : p z = false) : badI p (L ++ [z]) = some L.length := by
  refine badI_at (k := z) (by rw [List.getElem?_append_right (Nat.le_refl _), Nat.sub_self]; rfl) hz fun j x hj hx => ?_
  rw [List.getElem?_append_left hj] at hx
  exact hL x (List.mem_of_getElem? hx)
theorem bad_all {p : Str → Bool} {ws : List Str} (h : ∀ w ∈ ws, p w = true) : badI p ws = none := badI_no fun _ x _ hx => h x (List.mem_of_getElem? hx)
theorem bad_head {p : Str → Bool} {w : Str} {ws : List Str} (h : p w = false) : badI p (w :: ws) = some 0 := badI_at (k := w) rfl h fun j _ hj => absurd hj (Nat.not_lt_zero _)
theorem p_abs {w : Str} (h : w ∈ abs ++ [("a" : Str)]) : (runO w).isSome = true := by
  rcases List.mem_append.mp h with h | h
  · rcases m_abs h with rfl | rfl <;> decide +kernel
  · rw [List.mem_singleton.mp h]; decide +kernel
theorem p_aps {w : Str} (h : w ∈ aps ++ [("a+" : Str)]) : (entO w).isSome = true := by
  rcases List.mem_append.mp h with h | h
  · rw [m_aps h]; decide +kernel
  · rw [List.mem_singleton.mp h]; decide +kernel
theorem r0 : seqZ lo0 = .err none := by
  unfold seqZ runsZ
  rw [w0.1, bad_all fun w hw => p_abs hw]
  have l := Paired.len (runs_all fun w hw => p_abs hw)
  refine if_neg fun h => ?_
  rw [Bool.and_eq_true] at h
  have h : (decide ((((((abs ++ [("a" : Str)]).filterMap runO).map dR).length : Nat) : Int) ≤ 400) && _) = true := h.2
  rw [Bool.and_eq_true] at h
  have h := of_decide_eq_true h.1
  rw [List.length_map, ← l, List.length_append, abs_len] at h
  exact absurd h (by decide)
theorem r1 : recZ lo1 = .err none := by
  unfold recZ
  rw [w1.1, bad_all fun w hw => p_aps hw]
  exact if_neg (by rw [List.length_append, aps_len]; decide)
theorem r2 : seqZ lo2 = .err (some 400) := by
  unfold seqZ
  rw [w2.1, bad_last (fun w hw => p_abs (List.mem_append_left _ hw)) (by decide +kernel), abs_len]
theorem r5 : recZ lo4 = .err (some 400) := by
  unfold recZ
  rw [w4.1, bad_last (fun w hw => p_aps (List.mem_append_left _ hw)) (by decide +kernel), aps_len]
theorem r6 : recZ lo5 = .err (some 0) := by
  unfold recZ
  rw [w5.1, List.cons_append, bad_head (by decide +kernel)]
theorem r7 : stZ lo6 = .err (some 300) := by
  unfold stZ
  rw [w6.1, bad_last (fun w hw => by rw [m_as3 hw]; decide +kernel) (by decide +kernel), as3_len]
theorem r8 : seqZ lo7 = .err (some 0) := by
  unfold seqZ
  rw [w7.1, List.cons_append, bad_head (by decide +kernel)]
theorem w3 : wrds lo3 = [lo3] ∧ OkTxt (.str lo3) := by
  have h : wrds lo3 = [lo3] ∧ lo3.length ≤ 600 := by decide +kernel
  refine ⟨h.1, fun z e => ?_⟩
  cases e
  refine ⟨Nat.le_trans h.2 (by decide), fun w hw => ?_⟩
  rw [h.1] at hw
  rw [List.mem_singleton.mp hw]
  exact h.2
theorem r4' : exO lo3 = true ∧ runO lo3 = some (("a" : Str), (10000000000000000000000000000001 : Int)) := by decide +kernel
theorem r4 : stZ lo3 = .ok (dR (("a" : Str), (10000000000000000000000000000001 : Int))) := by
  obtain ⟨h1, h2⟩ := r4'
  unfold stZ
  rw [w3.1, bad_all fun w hw => by rw [List.mem_singleton.mp hw, h2]; simp]
  show (if exO lo3 = true then Out.ok (runD (runO lo3)) else _) = _
  rw [h1, h2]
  rfl
theorem r3 : seqZ lo3 = .err none := by
  obtain ⟨h1, h2⟩ := r4'
  unfold seqZ runsZ
  rw [w3.1, bad_all fun w hw => by rw [List.mem_singleton.mp hw, h2]; rfl]
  have : [lo3].filterMap runO = [(("a" : Str), (10000000000000000000000000000001 : Int))] := by rw [List.filterMap_cons, h2]; rfl
  rw [this]
  refine if_neg fun h => ?_
  rw [Bool.and_eq_true] at h
  exact absurd h.2 (by decide +kernel)
end UP

set_option Elab.async false
set_option linter.all false
set_option maxRecDepth 100000
set_option maxHeartbeats 4000000
set_option pp.maxSteps 300
set_option exponentiation.threshold 9000
namespace UP
open PySem PySem.Spec PyProof.Rows L2
theorem op_neDK {X : Cx} {K : PySem.W.Frag} (h : X.K = K) (hu : X.A.units + 64 < cLine) : OpR X (compareOp .NotEq) (rNeD K) := h ▸ op_neD hu
theorem op_eqDK {X : Cx} {K : PySem.W.Frag} (h : X.K = K) (hu : X.A.units + 64 < cLine) : OpR X (compareOp .Eq) (rEqD K) := h ▸ op_eqD hu
theorem room70 {A : Around} {k : Nat} (hr : Room k A) : A.units + 70 < cLine := by
  have := hr.un
  omega
theorem q0 : outD (readZ 0 (.str lo0)) = .str "error None" := by
  rw [readZ0, r0]
  exact congrArg Dat.str errS_none
theorem q1 : outD (readZ 2 (.str lo1)) = .str "error None" := by
  rw [readZ2, r1]
  exact congrArg Dat.str errS_none
theorem q2 : outD (readZ 0 (.str lo2)) = .str "error 400" := by
  rw [readZ0, r2]
  exact congrArg Dat.str (by decide +kernel)
theorem q3 : outD (readZ 0 (.str lo3)) = .str "error None" := by
  rw [readZ0, r3]
  exact congrArg Dat.str errS_none
theorem q4 : outD (readZ 1 (.str lo3)) = dR (("a" : Str), (10000000000000000000000000000001 : Int)) := by
  rw [readZ1, r4]
  rfl
theorem q5 : outD (readZ 2 (.str lo4)) = .str "error 400" := by
  rw [readZ2, r5]
  exact congrArg Dat.str (by decide +kernel)
theorem q6 : outD (readZ 2 (.str lo5)) = .str "error 0" := by
  rw [readZ2, r6]
  exact congrArg Dat.str (by decide +kernel)
theorem q7 : outD (readZ 1 (.str lo6)) = .str "error 300" := by
  rw [readZ1, r7]
  exact congrArg Dat.str (by decide +kernel)
theorem q8 : outD (readZ 0 (.str lo7)) = .str "error 0" := by
  rw [readZ0, r8]
  exact congrArg Dat.str (by decide +kernel)
def valsD : List Dat := [.non, .int 0, .lst [.str "a"], .bl true, .dic, .tup [.str "a", .int 1]]
theorem vals_ok : ∀ d ∈ valsD, (∀ f, outOf f d = .err none) ∧ OkTxt d := fun d hd => by
  unfold valsD at hd
  simp only [List.mem_cons, List.not_mem_nil, or_false] at hd
  rcases hd with rfl | rfl | rfl | rfl | rfl | rfl
  all_goals exact ⟨fun _ => rfl, fun z e => by cases e⟩
end UP

set_option Elab.async false
set_option linter.all false
set_option maxRecDepth 100000
set_option maxHeartbeats 4000000
set_option pp.maxSteps 300
set_option exponentiation.threshold 9000
namespace UP
open PySem PySem.Spec PyProof.Rows L2
def nmsF : List Str := ["a", "b", "zz", "abcdefgh"]
/-- words of runs, words of entries -/
def WdO (x : Str) : Prop := x.length ≤ 40 ∧ Chs x
theorem small_text {ws : List Str} (h : ∀ x ∈ ws, WdO x) (l : ws.length ≤ 20) : TxO 40 900 (Txt.join " " ws) := by
  refine LxO.mono (tx_join h) (Nat.le_refl _) ?_
  have gen : ∀ ws : List Str, (∀ x ∈ ws, WdO x) → wS ws ≤ 41 * ws.length := fun ws => by
    induction ws with
    | nil => intro _; exact Nat.zero_le _
    | cons x t ih =>
      intro hx
      have e : wS (x :: t) = wS [x] + wS t := wS_app [x] t
      have h1 := wS_one (hx x (List.mem_cons_self ..)).1
      have h2 := ih fun y hy => hx y (List.mem_cons_of_mem _ hy)
      rw [e, List.length_cons]
      omega
  have := gen ws h
  omega
def nmsE : List Str := nmsF ++ [("?" : Str)]
theorem nms_ok : ∀ x ∈ nmsE, x.length ≤ 8 ∧ ∀ c ∈ TL.tl x, c < 1114112 := by decide +kernel
theorem chs_app {a b : Str} (h : Chs a) (k : Chs b) : Chs (a ++ b) := fun c hc => by
  rw [TL.tl_append] at hc
  exact (List.mem_append.mp hc).elim (h c) (k c)
theorem chs_num (n : Nat) : Chs (nS (n : Int)) := fun c hc => by
  rw [tl_nS] at hc
  have := TL.numL_digits n c hc
  omega
theorem run_word_ok {nm : Str} {n : Nat} (h : nm.length ≤ 8 ∧ Chs nm) (l : n < 10 ^ 31) : WdO (nm ++ "*" ++ nS (n : Int)) := by
  have e : ("*" : Str).length = 1 := by decide +kernel
  have e2 : (nS (n : Int)).length ≤ 31 := by
    rw [TL.len_tl, tl_nS]
    exact TL.numL_len (by decide) l
  have h1 := h.1
  refine ⟨by rw [app_len, app_len]; omega, chs_app (chs_app h.2 ?_) (chs_num n)⟩
  exact (show ∀ c ∈ TL.tl ("*" : Str), c < 1114112 by decide +kernel)
theorem wS_small {ws : List Str} (h : ∀ x ∈ ws, WdO x) (l : ws.length ≤ 20) : wS ws ≤ 1000 := by
  have gen : ∀ ws : List Str, (∀ x ∈ ws, WdO x) → wS ws ≤ 41 * ws.length := fun ws => by
    induction ws with
    | nil => intro _; exact Nat.zero_le _
    | cons x t ih =>
      intro hx
      have e : wS (x :: t) = wS [x] + wS t := wS_app [x] t
      have h1 := wS_one (hx x (List.mem_cons_self ..)).1
      have h2 := ih fun y hy => hx y (List.mem_cons_of_mem _ hy)
      rw [e, List.length_cons]
      omega
  have := gen ws h
  omega
theorem jseq {a b : TS} {D : Ends} {σ : L2.St} {H : Hp} (h : a { D with nx := b D } σ H) : tSeq a b D σ H := h
theorem for_litsK {K : PySem.W.Frag} {ts : TA} {ds : List Dat} {g : TG} {tb : TS} {D : Ends} {σ : L2.St} {H : Hp} (h : Lits σ H ts ds) (l : ds.length ≤ 1000)
    (q : ∀ H' vs p, H' p = some (.lst vs) → Same H H' → Paired (Rp H') vs ds → ∃ W : Nat → Nat → L2.St → Hp → Prop, (∃ m, W 0 m σ H') ∧ ∀ i m σ2 H2, W i m σ2 H2 → ((Itl K p).stop i H2 ∧ D.nx σ2 H2) ∨ ((Itl K p).go i H2 ∧ ∃ N : L2.St → Hp → Prop, (∀ σ' H', N σ' H' → ∃ m', m' < m ∧ W (i + 1) m' σ' H') ∧ ∀ x H', (Itl K p).yld i H2 x H' → g x σ2 H' fun σ3 H3 => tb { D with nx := N, ct := N, bk := D.nx } σ3 H3)) :
    tFor (iList K (tLst ts)) g tb D σ H :=
  h H _ (Same.refl _) fun H1 vs s1 r1 => ⟨by rw [Paired.len r1]; exact smallE (by omega), fun p np => ⟨p, rfl, ⟨vs, .of upd_same⟩, q _ vs p upd_same (s1.trans (same_upd np)) (rps_same (same_upd np) r1)⟩⟩
theorem dp_rep {K : PySem.W.Frag} {H : Hp} (z : Str) : ∀ n : Nat, DpAll K H (List.replicate n (V.str z)) (List.replicate n (.str z))
  | 0 => .nil
  | n + 1 => .cons (.str _) (dp_rep z n)
/-! ### what is found has no lists in it -/
def atomB : Dat → Bool
  | .non => true
  | .str _ => true
  | .int _ => true
  | _ => false
def tupB : Dat → Bool
  | .tup l => l.all atomB
  | _ => false
def outB : Dat → Bool
  | .lst l => l.all tupB
  | d => atomB d || tupB d
theorem rp_atom {H H' : Hp} {u : V} {d : Dat} (a : atomB d = true) (h : Rp H u d) : Rp H' u d := by
  cases h with
  | non => exact .non
  | int n => exact .int n
  | str z => exact .str z
  | bl b => cases a
  | dic e => cases a
  | lst e p => cases a
  | tup e p => cases a
theorem rps_atom {H H' : Hp} : ∀ {us : List V} {l : List Dat}, l.all atomB = true → Paired (Rp H) us l → Paired (Rp H') us l
  | [], [], _, _ => .nil
  | u :: us, d :: l, a, h => by
    rw [List.all_cons, Bool.and_eq_true] at a
    cases h with
    | cons h t => exact .cons (rp_atom a.1 h) (rps_atom a.2 t)
theorem rp_tup {H : Hp} {u : V} {d : Dat} {R : Addr} {xs : List V} (a : tupB d = true) (h : Rp H u d) (hR : H R = some (.lst xs)) : Rp (del H R) u d := by
  cases h with
  | tup e p =>
    refine .tup ?_ (rps_atom a p)
    rw [del_ne (fun c => by rw [c, hR] at e; cases e)]
    exact e
  | non => cases a
  | int n => cases a
  | str z => cases a
  | bl b => cases a
  | dic e => cases a
  | lst e p => cases a
theorem rps_tup {H : Hp} {R : Addr} {xs : List V} (hR : H R = some (.lst xs)) : ∀ {us : List V} {l : List Dat}, l.all tupB = true → Paired (Rp H) us l → Paired (Rp (del H R)) us l
  | [], [], _, _ => .nil
  | u :: us, d :: l, a, h => by
    rw [List.all_cons, Bool.and_eq_true] at a
    cases h with
    | cons h t => exact .cons (rp_tup a.1 h hR) (rps_tup hR a.2 t)
theorem rp_out {H : Hp} {u : V} {d : Dat} {R : Addr} {xs : List V} (a : outB d = true) (h : Rp H u d) (nu : u ≠ .ref R) (hR : H R = some (.lst xs)) : Rp (del H R) u d := by
  cases h with
  | lst e p =>
    refine .lst ?_ (rps_tup hR a p)
    rw [del_ne (fun c => nu (by rw [c]))]
    exact e
  | tup e p => exact rp_tup (by simpa [outB, atomB] using a) (.tup e p) hR
  | non => exact .non
  | int n => exact .int n
  | str z => exact .str z
  | bl b => cases a
  | dic e => cases a
theorem flat_dR (rs : List Run) : outB (.lst (rs.map dR)) = true := by
  show (rs.map dR).all tupB = true
  rw [List.all_map]
  exact List.all_eq_true.mpr fun _ _ => rfl
theorem flat_en (es : List En) : outB (.lst (es.map enD)) = true := by
  show (es.map enD).all tupB = true
  rw [List.all_map]
  refine List.all_eq_true.mpr fun e _ => ?_
  obtain ⟨k, b⟩ := e
  cases k <;> rfl
theorem flat_seq (z : Str) : outB (outD (seqZ z)) = true := by
  unfold seqZ
  split
  · rfl
  · split
    · exact flat_dR _
    · rfl
theorem flat_rec (z : Str) : outB (outD (recZ z)) = true := by
  unfold recZ
  split
  · rfl
  · split
    · exact flat_en _
    · rfl
theorem flat_st (z : Str) : outB (outD (stZ z)) = true := by
  unfold stZ
  split
  · rfl
  · unfold stTail
    split
    · split
      · cases runO _ <;> rfl
      · rfl
    · rfl
def mI : Nat → Nat
  | 0 => 40
  | 1 => 81
  | 2 => 163
  | _ => 327
section
variable {P : Program} {w : World} {K : PySem.W.Frag} {mg : Str → Option Value} {base : Heap}
/-! law: slots 0:script 1:bag 2:turn 3:value 4:long 5:some 6:bad 7:names 8:most 9:runs 10:entries 11:texts 12:step 13:text 14:change 15:due 16:door -/
abbrev s_law : Stmt := topS 65
theorem sc_law : FnScope ["script", "bag", "turn", "value", "long", "some", "bad", "names", "most", "runs", "entries", "texts", "step", "text", "change", "due", "door"] ["script"] (defScope s_law) := ⟨rfl, rfl, rfl, by decide +kernel, rfl, by decide +kernel, by decide +kernel⟩
def sp_law (K : PySem.W.Frag) : Sp := fun vs H Q _ => ∃ (a : Addr) (ns : List Int), vs = [.ref a] ∧ SqL K H a (ns.map V.int) ∧ ns.length ≤ 63 ∧ ∀ H', Q (.bl true) H'
theorem fn_law {f : Addr} {fd : FuncData} (F : Fun K "law" "law" s_law f fd) (T : Tx mg) (G_law_bag : Has P w K mg base 1 "_law_bag" ["script"] (sp_law_bag K)) (G_law_draw : Has P w K mg base 2 "_law_draw" ["bag", "bound"] sp_law_draw) (G_law_changed : Has P w K mg base 3 "_law_changed" ["bag", "text"] sp_law_changed)
    (G_law_sequence_of : Has P w K mg base 4 "_law_sequence_of" ["text"] (sp_law_of seqZ)) (G_law_state_of : Has P w K mg base 4 "_law_state_of" ["text"] (sp_law_of stZ)) (G_law_record_of : Has P w K mg base 2 "_law_record_of" ["text"] (sp_law_of recZ)) (G_law_read : Has P w K mg base 6 "_law_read" ["door", "text"] sp_law_read) :
    FnC P w K mg base f fd ["script"] (sp_law K) := by
  refine fnC_of F sc_law (fun vs H Q E h => ?_) (fun cdv outer s H vs Q E hr h => ?_)
  · obtain ⟨_, _, rfl, _⟩ := h
    rfl
  · obtain ⟨a, ns, rfl, hS, l63, q⟩ := h
    refine ⟨_, (pss_cons (ps_set (i := 1) sc_law.nd rfl (by first | exact Or.inl rfl | exact Or.inr rfl) (pe_callH G_law_bag (hr.mono (by omega)) (by rfl) (pa_cons (pv 0) pa_nil)))
    (pss_cons (ps_for PassesOwn.never rfl (pi_range1 (by rfl) T.n_range (pa_cons (pe_op op_add pe_int (pe_callB (call_min2 rfl) (by rfl) T.n_min (by decide +kernel) (pa_cons pe_int (pa_cons (pe_callB call_len_seq (by rfl) T.n_len (by decide +kernel) (pa_cons (pv 0) pa_nil)) pa_nil)))) pa_nil)) (pg_name (i := 2) sc_law.nd rfl (by first | exact Or.inl rfl | exact Or.inr rfl))
      (pss_cons (ps_set (i := 7) sc_law.nd rfl (by first | exact Or.inl rfl | exact Or.inr rfl) (pe_lst (pa_cons pe_str (pa_cons pe_str (pa_cons pe_str (pa_cons pe_str pa_nil))))))
    (pss_cons (ps_set (i := 8) sc_law.nd rfl (by first | exact Or.inl rfl | exact Or.inr rfl) (pe_ix ix_list (pe_lst (pa_cons pe_int (pa_cons pe_int (pa_cons (pe_op op_pow pe_int pe_int) pa_nil)))) (pe_callH G_law_draw (hr.mono (by omega)) (by rfl) (pa_cons (pv 1) (pa_cons pe_int pa_nil))) (fun _ _ => rfl)))
    (pss_cons (ps_setLc (i := 9) (own := [("step", 12)]) rfl sc_law.nd rfl rfl (sw_true rfl rfl rfl (by decide +kernel)) (pi_range1 (by rfl) T.n_range (pa_cons (pe_callH G_law_draw (hr.mono (by omega)) (by rfl) (pa_cons (pv 1) (pa_cons pe_int pa_nil))) pa_nil)) (blkOk_by (N := ["script", "bag", "turn", "value", "long", "some", "bad", "names", "most", "runs", "entries", "texts", "step", "text", "change", "due", "door"]) (sc := defScope s_law) (by decide +kernel)) (fun _ _ _ _ _ => (pg_name (i := 12) sc_law.nd rfl (by first | exact Or.inl rfl | exact Or.inr rfl))) (fun _ _ _ _ _ => pts_nil) (fun _ _ _ _ _ => (pe_op op_add_str (pe_op op_add_str (pe_ix (ix_listK (K := K) rfl) (pv 7) (pe_op op_mod (pv 12) pe_int) (fun _ _ => rfl)) pe_str) (pe_callTy call_str_int (by rfl) T.n_str (by decide +kernel) (pa_cons (pe_op op_add pe_int (pe_callH G_law_draw (hr.mono (by omega)) (by rfl) (pa_cons (pv 1) (pa_cons (pv 8) pa_nil)))) pa_nil)))))
    (pss_cons (ps_expr (pe_bm PySem.F.plainAttrs_list PySem.F.slot_list_append PySem.F.type_list_append mt_append (pv 7) (pa_cons pe_str pa_nil)))
    (pss_cons (ps_setLc (i := 10) (own := [("step", 12)]) rfl sc_law.nd rfl rfl (sw_true rfl rfl rfl (by decide +kernel)) (pi_range1 (by rfl) T.n_range (pa_cons (pe_callH G_law_draw (hr.mono (by omega)) (by rfl) (pa_cons (pv 1) (pa_cons pe_int pa_nil))) pa_nil)) (blkOk_by (N := ["script", "bag", "turn", "value", "long", "some", "bad", "names", "most", "runs", "entries", "texts", "step", "text", "change", "due", "door"]) (sc := defScope s_law) (by decide +kernel)) (fun _ _ _ _ _ => (pg_name (i := 12) sc_law.nd rfl (by first | exact Or.inl rfl | exact Or.inr rfl))) (fun _ _ _ _ _ => pts_nil) (fun _ _ _ _ _ => (pe_op op_add_str (pe_ix (ix_listK (K := K) rfl) (pv 7) (pe_callH G_law_draw (hr.mono (by omega)) (by rfl) (pa_cons (pv 1) (pa_cons pe_int pa_nil))) (fun _ _ => rfl)) (pe_ix ix_str pe_str (pe_callH G_law_draw (hr.mono (by omega)) (by rfl) (pa_cons (pv 1) (pa_cons pe_int pa_nil))) (fun _ _ => rfl)))))
    (pss_cons (ps_set (i := 11) sc_law.nd rfl (by first | exact Or.inl rfl | exact Or.inr rfl) (pe_lst (pa_cons (pe_join pe_str (pv 9)) (pa_cons (pe_join pe_str (pe_slice sl_list (pv 9) po_none (po_some pe_int))) (pa_cons (pe_join pe_str (pv 10)) (pa_cons pe_str pa_nil))))))
    (pss_one (ps_for PassesOwn.never rfl (pi_range1 (by rfl) T.n_range (pa_cons pe_int pa_nil)) (pg_name (i := 12) sc_law.nd rfl (by first | exact Or.inl rfl | exact Or.inr rfl))
      (pss_cons (ps_set (i := 13) sc_law.nd rfl (by first | exact Or.inl rfl | exact Or.inr rfl) (pe_ix ix_list (pv 11) (pe_callH G_law_draw (hr.mono (by omega)) (by rfl) (pa_cons (pv 1) (pa_cons pe_int pa_nil))) (fun _ _ => rfl)))
    (pss_cons (ps_for PassesOwn.never rfl (pi_range1 (by rfl) T.n_range (pa_cons (pe_callH G_law_draw (hr.mono (by omega)) (by rfl) (pa_cons (pv 1) (pa_cons pe_int pa_nil))) pa_nil)) (pg_name (i := 14) sc_law.nd rfl (by first | exact Or.inl rfl | exact Or.inr rfl))
      (pss_one (ps_set (i := 13) sc_law.nd rfl (by first | exact Or.inl rfl | exact Or.inr rfl) (pe_callH G_law_changed (hr.mono (by omega)) (by rfl) (pa_cons (pv 1) (pa_cons (pv 13) pa_nil))))))
    (pss_cons (ps_set (i := 15) sc_law.nd rfl (by first | exact Or.inl rfl | exact Or.inr rfl) (pe_lst (pa_cons (pe_callH G_law_sequence_of (hr.mono (by omega)) (by rfl) (pa_cons (pv 13) pa_nil)) (pa_cons (pe_callH G_law_state_of (hr.mono (by omega)) (by rfl) (pa_cons (pv 13) pa_nil)) (pa_cons (pe_callH G_law_record_of (hr.mono (by omega)) (by rfl) (pa_cons (pv 13) pa_nil)) pa_nil)))))
    (pss_one (ps_if (pt_cmpR op_ne (pe_callB (call_reprR (by rfl) (room70 hr)) (by rfl) T.n_repr (by decide +kernel) (pa_cons (pe_lc (own := [("door", 16)]) rfl sc_law.nd (pi_range1 (by rfl) T.n_range (pa_cons pe_int pa_nil)) (blkOk_by (N := ["script", "bag", "turn", "value", "long", "some", "bad", "names", "most", "runs", "entries", "texts", "step", "text", "change", "due", "door"]) (sc := defScope s_law) (by decide +kernel)) (fun _ _ _ _ _ => (pg_name (i := 16) sc_law.nd rfl (by first | exact Or.inl rfl | exact Or.inr rfl))) (fun _ _ _ _ _ => pts_nil) (fun _ _ _ _ _ => (pe_callH G_law_read (hr.mono (by omega)) (by rfl) (pa_cons (pv 16) (pa_cons (pv 13) pa_nil))))) pa_nil)) (pe_callB (call_reprR (by rfl) (room70 hr)) (by rfl) T.n_repr (by decide +kernel) (pa_cons (pv 15) pa_nil)) (nomark _)) (pss_one (ps_ret pe_bl)) pss_nil))))))))))))))
    (pss_cons (ps_for PassesOwn.never rfl (pi_list (pe_lst (pa_cons pe_non (pa_cons pe_int (pa_cons (pe_lst (pa_cons pe_str pa_nil)) (pa_cons pe_bl (pa_cons pe_dnewK (pa_cons (pe_tup (pa_cons pe_str (pa_cons pe_int pa_nil))) pa_nil)))))))) (pg_name (i := 3) sc_law.nd rfl (by first | exact Or.inl rfl | exact Or.inr rfl))
      (pss_one (ps_if (pt_cmpR (op_neDK (K := K) rfl hr.units) (pe_lc (own := [("door", 16)]) rfl sc_law.nd (pi_range1 (by rfl) T.n_range (pa_cons pe_int pa_nil)) (blkOk_by (N := ["script", "bag", "turn", "value", "long", "some", "bad", "names", "most", "runs", "entries", "texts", "step", "text", "change", "due", "door"]) (sc := defScope s_law) (by decide +kernel)) (fun _ _ _ _ _ => (pg_name (i := 16) sc_law.nd rfl (by first | exact Or.inl rfl | exact Or.inr rfl))) (fun _ _ _ _ _ => pts_nil) (fun _ _ _ _ _ => (pe_callH G_law_read (hr.mono (by omega)) (by rfl) (pa_cons (pv 16) (pa_cons (pv 3) pa_nil))))) (pe_op op_rep (pe_lst (pa_cons pe_str pa_nil)) pe_int) (nomark _)) (pss_one (ps_ret pe_bl)) pss_nil)))
    (pss_cons (ps_set (i := 4) sc_law.nd rfl (by first | exact Or.inl rfl | exact Or.inr rfl) (pe_lst (pa_cons (pe_op op_add_str (pe_op op_rep_str pe_str pe_int) pe_str) (pa_cons (pe_op op_add_str (pe_op op_rep_str pe_str pe_int) pe_str) (pa_cons (pe_op op_add_str (pe_op op_rep_str pe_str pe_int) pe_str) (pa_cons (pe_op op_add_str (pe_op op_add_str pe_str (pe_op op_rep_str pe_str pe_int)) pe_str) pa_nil))))))
    (pss_cons (ps_set (i := 5) sc_law.nd rfl (by first | exact Or.inl rfl | exact Or.inr rfl) (pe_lst (pa_cons (pe_callH G_law_read (hr.mono (by omega)) (by rfl) (pa_cons pe_int (pa_cons (pe_ix ix_list (pv 4) pe_int (fun _ _ => rfl)) pa_nil))) (pa_cons (pe_callH G_law_read (hr.mono (by omega)) (by rfl) (pa_cons pe_int (pa_cons (pe_ix ix_list (pv 4) pe_int (fun _ _ => rfl)) pa_nil))) (pa_cons (pe_callH G_law_read (hr.mono (by omega)) (by rfl) (pa_cons pe_int (pa_cons (pe_ix ix_list (pv 4) pe_int (fun _ _ => rfl)) pa_nil))) (pa_cons (pe_callH G_law_read (hr.mono (by omega)) (by rfl) (pa_cons pe_int (pa_cons (pe_ix ix_list (pv 4) pe_int (fun _ _ => rfl)) pa_nil))) pa_nil))))))
    (pss_cons (ps_if (pt_cmpR (op_neDK (K := K) rfl hr.units) (pe_callH G_law_read (hr.mono (by omega)) (by rfl) (pa_cons pe_int (pa_cons (pe_ix ix_list (pv 4) pe_int (fun _ _ => rfl)) pa_nil))) (pe_tup (pa_cons pe_str (pa_cons (pe_op op_add (pe_op op_pow pe_int pe_int) pe_int) pa_nil))) (nomark _)) (pss_one (ps_ret pe_bl)) pss_nil)
    (pss_cons (ps_set (i := 6) sc_law.nd rfl (by first | exact Or.inl rfl | exact Or.inr rfl) (pe_lst (pa_cons (pe_callH G_law_read (hr.mono (by omega)) (by rfl) (pa_cons pe_int (pa_cons (pe_op op_add_str (pe_op op_rep_str pe_str pe_int) pe_str) pa_nil))) (pa_cons (pe_callH G_law_read (hr.mono (by omega)) (by rfl) (pa_cons pe_int (pa_cons (pe_op op_add_str (pe_op op_add_str pe_str (pe_op op_rep_str pe_str pe_int)) pe_str) pa_nil))) (pa_cons (pe_callH G_law_read (hr.mono (by omega)) (by rfl) (pa_cons pe_int (pa_cons (pe_op op_add_str (pe_op op_rep_str pe_str pe_int) pe_str) pa_nil))) pa_nil)))))
    (pss_cons (ps_if (pt_cmpR (op_neDK (K := K) rfl hr.units) (pe_op op_cat (pv 6) (pe_lst (pa_cons (pe_callH G_law_read (hr.mono (by omega)) (by rfl) (pa_cons pe_int (pa_cons (pe_op op_add_str (pe_op op_add_str pe_str (pe_op op_rep_str pe_str pe_int)) pe_str) pa_nil))) pa_nil))) (pe_lst (pa_cons pe_str (pa_cons pe_str (pa_cons pe_str (pa_cons pe_str pa_nil))))) (nomark _)) (pss_one (ps_ret pe_bl)) pss_nil)
    (pss_one (ps_ret (pe_cmpR (op_eqDK (K := K) rfl hr.units) (pv 5) (pe_lst (pa_cons pe_str (pa_cons pe_str (pa_cons pe_str (pa_cons pe_str pa_nil))))) (nomark _)))))))))))), ?_⟩
    refine ⟨_, rfl, a, ns, rfl, hS, l63, fun H1 pb cl s1 npb ncl zb1 => ?_⟩
    refine ⟨_, rfl, a, _, rfl, .inl (s1.seq hS), _, _, rfl, _, _, rfl, rfl, _, rfl, ?_, ?_, for_range (lo := 0) (n := _) (fun i σ H' => ∃ y2 y7 y8 y9 y10 y11 y12 y13 y14 y15 y16, σ = [some (.ref a), some (.ref pb), y2, none, none, none, none, y7, y8, y9, y10, y11, y12, y13, y14, y15, y16] ∧ Bag H' pb cl (1000 * i))
      ⟨_, _, _, _, _, _, _, _, _, _, _, rfl, zb1⟩ (fun i σ H2 hi hP => ?_) (fun σ H2 hP => ?_)⟩
    · rw [List.length_map]
      split <;> omega
    · rw [List.length_map]
      split <;> omega
    · obtain ⟨y2, y7, y8, y9, y10, y11, y12, y13, y14, y15, y16, rfl, z2⟩ := hP
      have hi : i ≤ 100 := by
        have hi : i < _ := hi
        rw [List.length_map] at hi
        split at hi <;> omega
      refine ⟨(by show 4 ≤ sizeLine; decide), fun N nN => ?_⟩
      have sN := same_upd (o := .lst [.str "a", .str "b", .str "zz", .str "abcdefgh"]) nN
      have hN : (upd H2 N (.lst [.str "a", .str "b", .str "zz", .str "abcdefgh"])) N = some (.lst (nmsF.map V.str)) := upd_same
      have z3 := z2.same sN
      have pN := z2.ne nN
      generalize upd H2 N (.lst [.str "a", .str "b", .str "zz", .str "abcdefgh"]) = H3 at *
      refine ⟨_, _, rfl, rfl, ⟨by decide, by decide, by decide⟩, (by show 3 ≤ sizeLine; decide), fun M nM => ?_⟩
      have sM := same_upd (o := .lst [.int 2, .int 12, .int ((10 : Int) ^ (30 : Int).toNat)]) nM
      have hM : (upd H3 M (.lst [.int 2, .int 12, .int ((10 : Int) ^ (30 : Int).toNat)])) M = some (.lst [.int 2, .int 12, .int ((10 : Int) ^ (30 : Int).toNat)]) := upd_same
      have pM := z3.ne nM
      have z4 := z3.same sM
      have hN := sM _ _ hN
      generalize upd H3 M (.lst [.int 2, .int 12, .int ((10 : Int) ^ (30 : Int).toNat)]) = H4 at *
      refine ⟨_, rfl, pb, cl, 1000 * i, 3, rfl, z4, by omega, by decide, by decide, fun H5 r b5 z5 r0 r1 => ?_⟩
      have hN := b5 _ _ pN hN
      have hm : ∃ m : Int, atI [V.int 2, .int 12, .int ((10 : Int) ^ (30 : Int).toNat)] r = some (.int m) ∧ 2 ≤ m ∧ m ≤ bigN := by
        rcases (show r = 0 ∨ r = 1 ∨ r = 2 by omega) with rfl | rfl | rfl
        · exact ⟨2, rfl, by decide, by decide⟩
        · exact ⟨12, rfl, by decide, by decide⟩
        · exact ⟨_, rfl, by decide +kernel, by decide +kernel⟩
      obtain ⟨m, em, m2, mb⟩ := hm
      refine ⟨M, _, r, _, rfl, rfl, .of (b5 _ _ pM hM), em, ?_⟩
      clear hM em pM
      refine ⟨_, rfl, pb, cl, 1000 * i + 1, 20, rfl, z5, by omega, by decide, by decide, fun H6 r b6 z6 r0 r1 => ?_⟩
      obtain ⟨k, rfl⟩ : ∃ k : Nat, r = k := ⟨r.toNat, by omega⟩
      have hN := b6 _ _ pN hN
      obtain ⟨_, _, hcl6, _⟩ := id z6
      refine ⟨_, rfl, by omega, by omega, fun L nL => lc_range (lo := 0) (n := k) (fun j H' => But pb H6 H' ∧ Bag H' pb cl (1000 * i + 2 + j) ∧ ∃ xs : List Str, H' L = some (.lst (xs.map V.str)) ∧ xs.length = j ∧ ∀ x ∈ xs, WdO x)
        ⟨Same.but (same_upd nL), z6.same (same_upd nL), [], upd_same, rfl, fun _ h => by cases h⟩ (fun j H7 hj hP => ?_) (fun H7 hP => ?_)⟩
      · obtain ⟨b7, z7, xs, hL, lx, hx⟩ := hP
        have pL := bag_ne z7 hL
        have hN := b7 _ _ pN hN
        have jl : ((0 + (j : Int)) % 4).toNat < nmsF.length := by show _ < 4; omega
        have hnm := nms_ok _ (List.mem_append_left _ (List.getElem_mem jl))
        have enm : atI (nmsF.map V.str) ((0 + (j : Int)) % 4) = some (.str nmsF[((0 + (j : Int)) % 4).toNat]) := atI_ofB (by omega) (by rw [List.getElem?_map, List.getElem?_eq_getElem jl]; rfl)
        generalize nmsF[((0 + (j : Int)) % 4).toNat] = nm at *
        have hb : m.natAbs < 2 ^ 8000 := by
          unfold bigN at mb
          exact Nat.lt_of_lt_of_le (show m.natAbs < 2000000000000000000000000000000 by omega) (by decide +kernel)
        have e1 : ("*" : Str).length = 1 := by decide +kernel
        refine ⟨rfl, yesT ⟨_, rfl, _, rfl, _, _, rfl, rfl, (show (0 : Int) < 4 by decide), N, _, _, _, rfl, rfl, .of hN, enm, _, _, rfl, rfl, smallE (by omega), _, rfl, _, rfl, pb, cl, _, m, rfl, z7, by omega, by omega, hb, fun H8 r8 b8 z8 q0 q1 => ?_⟩⟩
        obtain ⟨c, rfl⟩ : ∃ c : Nat, r8 = c := ⟨r8.toNat, by omega⟩
        have cb : 2 + c < 10 ^ 31 := by
          unfold bigN at mb
          have : (10 : Nat) ^ 31 = 10000000000000000000000000000000 := by decide +kernel
          omega
        have wd := run_word_ok (n := 2 + c) hnm cb
        have hL8 := b8 _ _ pL hL
        have lw := wd.1
        have lg : ((2 + c : Nat) : Int).natAbs.log2 < 1920 := log_of (Nat.lt_trans cb (by decide +kernel))
        have ex : nS ((2 + c : Nat) : Int) = nS (2 + (c : Int)) := by congr 1
        rw [ex] at wd lw
        refine ⟨_, _, rfl, rfl, _, rfl, (by have e : (2 + (c : Int)) = ((2 + c : Nat) : Int) := by omega
                                            rw [e]; exact lg), _, _, rfl, rfl, (by rw [app_len] at lw; exact smallE (by show _ + (nS (2 + (c : Int))).length ≤ _; omega)), _, hL8, by rw [List.length_map]; exact small (by omega), ?_⟩
        refine ⟨fun b o nb hb => ?_, ?_, xs ++ [nm ++ "*" ++ nS (2 + (c : Int))], ?_, by rw [List.length_append, lx]; rfl, fun x hx' => ?_⟩
        · rw [upd_ne (ne_of_none hb nL)]
          exact b8 _ _ nb (b7 _ _ nb hb)
        · exact (z8.keep (fun o ho => by rw [upd_ne (fun e => pL e.symm)]; exact ho) fun o ho => by rw [upd_ne (ne_of_none hcl6 nL)]; exact ho).mono (by omega)
        · rw [upd_same, List.map_append]
          rfl
        · rcases List.mem_append.mp hx' with hx' | hx'
          · exact hx x hx'
          · rw [List.mem_singleton.mp hx']
            exact wd
      obtain ⟨b7, z7, xs, hL, lx, hx⟩ := hP
      have pL := bag_ne z7 hL
      have LN : L ≠ N := (ne_of_none hN nL).symm
      have hN := b7 _ _ pN hN
      obtain ⟨bs, _, hcl7, _⟩ := id z7
      have clN : cl ≠ N := fun e => by
        rw [e, hN] at hcl7
        have h := HO.lst.inj (Option.some.inj hcl7)
        cases hb : bs.ns with
        | nil => rw [hb] at h; cases h
        | cons x t => rw [hb] at h; cases h
      refine ⟨_, rfl, .inl ⟨rfl, _, SqL.of hN⟩, N, _, _, rfl, rfl, hN, (by show 4 < sizeLine; decide), ?_⟩
      have hL8 : (upd H7 N (.lst (nmsF.map V.str ++ [.str "?"]))) L = some (.lst (xs.map V.str)) := by rw [upd_ne LN]; exact hL
      have hN8 : (upd H7 N (.lst (nmsF.map V.str ++ [.str "?"]))) N = some (.lst (nmsE.map V.str)) := upd_same
      have z8 : Bag (upd H7 N (.lst (nmsF.map V.str ++ [.str "?"]))) pb cl (1000 * i + 2 + k) := z7.keep (fun o ho => by rw [upd_ne (fun e => pN e.symm)]; exact ho) fun o ho => by rw [upd_ne clN]; exact ho
      generalize upd H7 N (.lst (nmsF.map V.str ++ [.str "?"])) = H8 at *
      refine ⟨_, rfl, pb, cl, _, 20, rfl, z8, by omega, by decide, by decide, fun H9 r b9 z9 r0 r1 => ?_⟩
      obtain ⟨k2, rfl⟩ : ∃ k : Nat, r = k := ⟨r.toNat, by omega⟩
      have hN := b9 _ _ pN hN8
      have hL := b9 _ _ pL hL8
      obtain ⟨_, _, hcl9, _⟩ := id z9
      refine ⟨_, rfl, by omega, by omega, fun J nJ => lc_range (lo := 0) (n := k2) (fun j H' => But pb H9 H' ∧ Bag H' pb cl (1000 * i + 2 + k + 1 + 2 * j) ∧ ∃ ys : List Str, H' J = some (.lst (ys.map V.str)) ∧ ys.length = j ∧ ∀ x ∈ ys, WdO x)
        ⟨Same.but (same_upd nJ), z9.same (same_upd nJ), [], upd_same, rfl, fun _ h => by cases h⟩ (fun j H7 hj hP => ?_) (fun H10 hP => ?_)⟩
      · obtain ⟨b7, z7, ys, hJ, ly, hy⟩ := hP
        have pJ := bag_ne z7 hJ
        have hN := b7 _ _ pN hN
        refine ⟨rfl, yesT ⟨_, rfl, _, rfl, pb, cl, _, 5, rfl, z7, by omega, by decide, by decide, fun H8 r8 b8 z8 q0 q1 => ?_⟩⟩
        obtain ⟨c, rfl⟩ : ∃ c : Nat, r8 = c := ⟨r8.toNat, by omega⟩
        have jl : c < nmsE.length := by show _ < 5; omega
        have hnm := nms_ok _ (List.getElem_mem jl)
        have enm : atI (nmsE.map V.str) (c : Int) = some (.str nmsE[c]) := atI_ofB (by omega) (by rw [List.getElem?_map]; show nmsE[c]?.map V.str = _; rw [List.getElem?_eq_getElem jl]; rfl)
        generalize nmsE[c] = nm at *
        refine ⟨N, _, _, _, rfl, rfl, .of (b8 _ _ pN hN), enm, ?_⟩
        refine ⟨_, rfl, pb, cl, _, 2, rfl, z8, by omega, by decide, by decide, fun H10 r10 b10 z10 q0 q1 => ?_⟩
        have sg : ∃ sc : Nat, atI ("+-" : Str).cps.toList r10 = some sc ∧ sc < 1114112 := by
          rcases (show r10 = 0 ∨ r10 = 1 by omega) with rfl | rfl
          · exact ⟨43, by decide +kernel, by decide⟩
          · exact ⟨45, by decide +kernel, by decide⟩
        obtain ⟨sc, esc, lsc⟩ := sg
        have hJ10 := b10 _ _ pJ (b8 _ _ pJ hJ)
        have l1 : (⟨#[sc]⟩ : Str).length = 1 := rfl
        have wd : WdO (nm ++ ⟨#[sc]⟩) := ⟨by rw [app_len]; have := hnm.1; omega, chs_app hnm.2 fun x hx => by
          have hx : x ∈ [sc] := hx
          rw [List.mem_singleton.mp hx]
          exact lsc⟩
        refine ⟨_, _, _, rfl, rfl, (by decide +kernel), esc, _, _, rfl, rfl, smallE (by have := hnm.1; omega), _, hJ10, by rw [List.length_map]; exact small (by omega), ?_⟩
        refine ⟨fun b o nb hb => ?_, ?_, ys ++ [nm ++ ⟨#[sc]⟩], ?_, by rw [List.length_append, ly]; rfl, fun x hx' => ?_⟩
        · rw [upd_ne (ne_of_none hb nJ)]
          exact b10 _ _ nb (b8 _ _ nb (b7 _ _ nb hb))
        · exact (z10.keep (fun o ho => by rw [upd_ne (fun e => pJ e.symm)]; exact ho) fun o ho => by rw [upd_ne (ne_of_none hcl9 nJ)]; exact ho).mono (by omega)
        · rw [upd_same, List.map_append]
          rfl
        · rcases List.mem_append.mp hx' with hx' | hx'
          · exact hy x hx'
          · rw [List.mem_singleton.mp hx']
            exact wd
      obtain ⟨b10, z10, ys, hJ, ly, hy⟩ := hP
      have hL := b10 _ _ pL hL
      have pJ := bag_ne z10 hJ
      have gx := small_text hx (by omega)
      have gy := small_text hy (by omega)
      have gx1 := small_text (ws := xs.take 1) (fun x h => hx x (List.mem_of_mem_take h)) (by rw [List.length_take]; omega)
      have g1 : TxO 40 900 "-" := ⟨by decide +kernel, by decide +kernel, by decide +kernel⟩
      have bx := wS_small hx (by omega)
      have by' := wS_small hy (by omega)
      have bx1 := wS_small (ws := xs.take 1) (fun x h => hx x (List.mem_of_mem_take h)) (by rw [List.length_take]; omega)
      refine jgset_go (σ' := [some (.ref a), some (.ref pb), some (.int (0 + (i : Int))), none, none, none, none, some (.ref N), some (.int m), some (.ref L), some (.ref J), y11, y12, y13, y14, y15, y16]) rfl (jnx_go (jset ?_))
      refine ⟨⟨_, rfl⟩, _, rfl, _, L, xs, rfl, rfl, .inl (.of hL), by rw [sum_wS]; omega, ?_⟩
      refine ⟨⟨_, rfl⟩, _, rfl, 1, rfl, L, _, rfl, .of hL, fun S nS => ?_⟩
      have sS := same_upd (o := .lst (cutV (xs.map V.str) none (some 1))) nS
      have hS' : (upd H10 S (.lst (cutV (xs.map V.str) none (some 1)))) S = some (.lst ((xs.take 1).map V.str)) := by rw [upd_same, ← cut_pre]; rfl
      have z11 := z10.same sS
      have hJ := sS _ _ hJ
      generalize upd H10 S (.lst (cutV (xs.map V.str) none (some 1))) = H11 at *
      refine ⟨_, S, xs.take 1, rfl, rfl, .inl (.of hS'), by rw [sum_wS]; omega, ?_⟩
      refine ⟨⟨_, rfl⟩, _, rfl, _, J, ys, rfl, rfl, .inl (.of hJ), by rw [sum_wS]; omega, (by show 4 ≤ sizeLine; decide), fun W nW => ?_⟩
      have hW : ∃ ts : List Str, ts.length = 4 ∧ (∀ t ∈ ts, TxO 40 900 t) ∧ (upd H11 W (.lst [.str (Txt.join " " xs), .str (Txt.join " " (xs.take 1)), .str (Txt.join " " ys), .str "-"])) W = some (.lst (ts.map V.str)) := by
        refine ⟨[Txt.join " " xs, Txt.join " " (xs.take 1), Txt.join " " ys, "-"], rfl, fun t ht => ?_, upd_same⟩
        simp only [List.mem_cons, List.not_mem_nil, or_false] at ht
        rcases ht with rfl | rfl | rfl | rfl
        · exact gx
        · exact gx1
        · exact gy
        · exact g1
      obtain ⟨ts, lt, ht, hW⟩ := hW
      have z12 := z11.same (same_upd (o := .lst [.str (Txt.join " " xs), .str (Txt.join " " (xs.take 1)), .str (Txt.join " " ys), .str "-"]) nW)
      have pW := bag_ne z12 hW
      clear b10 b9 b7 b6 b5 hL hJ hS' hN hN8 hL8
      generalize upd H11 W (.lst [.str (Txt.join " " xs), .str (Txt.join " " (xs.take 1)), .str (Txt.join " " ys), .str "-"]) = H12 at *
      refine ⟨6, rfl, by decide, by decide, for_range (lo := 0) (n := 6) (fun j σ H' => ∃ (y12 y13 y14 y15 y16 : Option V), σ = [some (.ref a), some (.ref pb), some (.int (0 + (i : Int))), none, none, none, none, some (.ref N), some (.int m), some (.ref L), some (.ref J), some (.ref W), y12, y13, y14, y15, y16] ∧ Bag H' pb cl (1000 * i + 100 + 20 * j) ∧ H' W = some (.lst (ts.map V.str)))
        ⟨_, _, _, _, _, rfl, z12.mono (by omega), hW⟩ (fun j σ H13 hj hP => ?_) (fun σ H13 hP => ?_)⟩
      · obtain ⟨y12, y13, y14, y15, y16, rfl, z13, hW⟩ := hP
        refine ⟨_, rfl, _, rfl, pb, cl, _, 4, rfl, z13, by omega, by decide, by decide, fun H14 r b14 z14 r0 r1 => ?_⟩
        obtain ⟨c, rfl⟩ : ∃ c : Nat, r = c := ⟨r.toNat, by omega⟩
        have jl : c < ts.length := by omega
        have ht0 := ht _ (List.getElem_mem jl)
        have hW := b14 _ _ pW hW
        refine ⟨W, _, _, .str ts[c], rfl, rfl, .of hW, atI_ofB (by omega) (by rw [List.getElem?_map]; show ts[c]?.map V.str = _; rw [List.getElem?_eq_getElem jl]; rfl), ?_⟩
        generalize ts[c] = t0 at *
        refine ⟨_, rfl, pb, cl, _, 4, rfl, z14, by omega, by decide, by decide, fun H15 r b15 z15 r0 r1 => ?_⟩
        obtain ⟨kc, rfl⟩ : ∃ c : Nat, r = c := ⟨r.toNat, by omega⟩
        have hW := b15 _ _ pW hW
        refine ⟨kc, rfl, by omega, by omega, for_range (lo := 0) (n := kc) (fun e σ H' => ∃ (y14 : Option V) (t : Str), σ = [some (.ref a), some (.ref pb), some (.int (0 + (i : Int))), none, none, none, none, some (.ref N), some (.int m), some (.ref L), some (.ref J), some (.ref W), some (.int (0 + (j : Int))), some (.str t), y14, y15, y16] ∧ Bag H' pb cl (1000 * i + 100 + 20 * j + 2 + 5 * e) ∧ H' W = some (.lst (ts.map V.str)) ∧ TxO (mI e) (900 + 400 * e) t)
          ⟨_, _, rfl, z15, hW, ht0⟩ (fun e σ H16 he hP => ?_) (fun σ H16 hP => ?_)⟩
        · obtain ⟨y14, t, rfl, z16, hW, tt⟩ := hP
          have he : e < 3 := by
            have he : e < kc := he
            omega
          have mm : 9 ≤ mI e ∧ mI e ≤ 200 ∧ 2 * mI e + 1 = mI (e + 1) := by
            rcases (show e = 0 ∨ e = 1 ∨ e = 2 by omega) with rfl | rfl | rfl <;> decide
          refine ⟨_, rfl, _, rfl, pb, cl, _, mI e, 900 + 400 * e, t, rfl, z16, by omega, tt, List.mem_range.mpr (by omega), by omega, by omega, fun H17 y b17 z17 ty => ?_⟩
          exact ⟨_, y, rfl, z17.mono (by omega), b17 _ _ pW hW, LxO.mono ty (by omega) (by omega)⟩
        · obtain ⟨y14, t, rfl, z16, hW, tt⟩ := hP
          have hk : kc < 4 := by omega
          have ok : OkZ t := TxO.okz tt (by rcases (show kc = 0 ∨ kc = 1 ∨ kc = 2 ∨ kc = 3 by omega) with rfl | rfl | rfl | rfl <;> decide) (by omega)
          have okt : OkTxt (.str t) := fun z' e => by
            cases e
            exact ⟨ok.l, fun w hw => by have := ok.w w hw; omega⟩
          refine ⟨_, rfl, t, rfl, ok, fun H17 u1 s17 r1 => ⟨_, rfl, t, rfl, ok, fun H18 u2 s18 r2 => ⟨_, rfl, t, rfl, ok, fun H19 u3 s19 r3 => ⟨(by show 3 ≤ sizeLine; decide), fun D nD => ?_⟩⟩⟩⟩
          have sD := same_upd (o := .lst [u1, u2, u3]) nD
          have rD : Rp (upd H19 D (.lst [u1, u2, u3])) (.ref D) (dueD t) := .lst upd_same (.cons (((r1.same s18).same s19).same sD) (.cons ((r2.same s19).same sD) (.cons (r3.same sD) .nil)))
          have s20 := ((s17.trans s18).trans s19).trans sD
          have z20 := z16.same s20
          have hW := s20 _ _ hW
          generalize upd H19 D (.lst [u1, u2, u3]) = H20 at *
          obtain ⟨f1, f2, f3⟩ := due_fits ok
          refine ⟨3, rfl, by decide, by decide, fun R nR => lc_range (lo := 0) (n := 3) (fun e H' => Same H20 H' ∧ ∃ us : List V, H' R = some (.lst us) ∧ us.length = e ∧ Paired (fun u d => Rp (del H' R) u d) us ([outD (seqZ t), outD (stZ t), outD (recZ t)].take e)) ⟨same_upd nR, [], upd_same, rfl, .nil⟩ (fun e H21 he hP => ?_) (fun H21 hP => ?_)⟩
          · obtain ⟨s21, us, hR, lu, pu⟩ := hP
            have he : e < 3 := he
            have ek : [outD (seqZ t), outD (stZ t), outD (recZ t)][e]? = some (outD (readZ (0 + (e : Int)) (.str t))) := by
              rcases (show e = 0 ∨ e = 1 ∨ e = 2 by omega) with rfl | rfl | rfl <;> rfl
            have fl : outB (outD (readZ (0 + (e : Int)) (.str t))) = true := by
              rcases (show e = 0 ∨ e = 1 ∨ e = 2 by omega) with rfl | rfl | rfl
              · exact flat_seq t
              · exact flat_st t
              · exact flat_rec t
            refine ⟨rfl, yesT ⟨_, rfl, _, rfl, _, _, .str t, rfl, .str t, okt, by omega, fun H22 u s22 r nw => ⟨us, s22 _ _ hR, small (by omega), same_grow nR (s21.trans s22), us ++ [u], upd_same, by rw [List.length_append, lu]; rfl, ?_⟩⟩⟩
            rw [take_snoc ek]
            have hR22 := s22 _ _ hR
            have sd : ∀ {x : HO}, Same (del H22 R) (del (upd H22 R x) R) := fun {x} b o hb => by
              by_cases c : b = R
              · rw [c] at hb
                exact absurd hb (by unfold del; rw [if_pos rfl]; intro h; cases h)
              · rw [del_ne c] at hb ⊢
                rw [upd_ne c]
                exact hb
            have sd0 : Same (del H21 R) (del H22 R) := fun b o hb => by
              by_cases c : b = R
              · rw [c] at hb
                exact absurd hb (by unfold del; rw [if_pos rfl]; intro h; cases h)
              · rw [del_ne c] at hb ⊢
                exact s22 _ _ hb
            exact Paired.app (Paired.imp (fun _ _ h => (h.same sd0).same sd) pu) (.cons ((rp_out fl r (nw R (by rw [hR]; intro h; cases h)) hR22).same sd) .nil)
          · obtain ⟨s21, us, hR, lu, pu⟩ := hP
            have sd : Same (del H21 R) H21 := fun b o hb => by
              by_cases c : b = R
              · rw [c] at hb
                exact absurd hb (by unfold del; rw [if_pos rfl]; intro h; cases h)
              · rw [del_ne c] at hb
                exact hb
            have rR : Rp H21 (.ref R) (dueD t) := .lst hR (Paired.imp (fun _ _ h => h.same sd) pu)
            refine ⟨R, dueD t, rfl, rR, f1, f2, f3, ⟨_, rfl, D, dueD t, rfl, rD.same s21, f1, f2, f3, rfl, _, rfl, iteN (by rw [decide_eq_true rfl]; rfl) ?_⟩⟩
            exact ⟨_, _, _, _, _, rfl, (z20.same s21).mono (by omega), s21 _ _ hW⟩
      · obtain ⟨y12, y13, y14, y15, y16, rfl, z13, _⟩ := hP
        exact ⟨_, _, _, _, _, _, _, _, _, _, _, rfl, z13.mono (by omega)⟩
    · obtain ⟨y2, y7, y8, y9, y10, y11, y12, y13, y14, y15, y16, rfl, z2⟩ := hP
      refine jnx_go (jseq ?_)
      refine for_litsK (ds := valsD) (lits_cons lit_non (lits_cons lit_int (lits_cons (lit_lst (lits_cons lit_str lits_nil) (by decide)) (lits_cons lit_bl (lits_cons lit_dic (lits_cons (lit_tup (lits_cons lit_str (lits_cons lit_int lits_nil)) (by decide)) lits_nil)))))) (by decide) fun H3 vs pv hv s3 rv => ?_
      have lv := Paired.len rv
      refine for_list (K := K) (a := pv) (xs := vs) (fun j σ H' => ∃ y3 y16 : Option V, σ = [some (.ref a), some (.ref pb), y2, y3, none, none, none, y7, y8, y9, y10, y11, y12, y13, y14, y15, y16] ∧ Same H3 H') ⟨_, _, rfl, Same.refl _⟩ (fun j σ H' _ hP => ?_) (fun j x σ H4 ex hP => ?_) (fun σ H4 hP => ?_)
      · obtain ⟨_, _, _, sm⟩ := hP
        exact .of (sm _ _ hv)
      · obtain ⟨y3, y16, rfl, sm⟩ := hP
        obtain ⟨d, ed, hx⟩ := Paired.at rv ex
        obtain ⟨o1, o2⟩ := vals_ok d (List.mem_of_getElem? ed)
        have hx := hx.same sm
        refine ⟨3, rfl, by decide, by decide, fun R nR => lc_range (lo := 0) (n := 3) (fun e H' => Same H4 H' ∧ H' R = some (.lst (List.replicate e (.str "error None")))) ⟨same_upd nR, upd_same⟩ (fun e H5 he hP => ?_) (fun H5 hP => ?_)⟩
        · obtain ⟨s5, hR⟩ := hP
          have he : e < 3 := he
          refine ⟨rfl, yesT ⟨_, rfl, _, rfl, _, x, d, rfl, hx.same s5, o2, by omega, fun H6 u s6 r nw => ?_⟩⟩
          have e1 : readZ (0 + (e : Int)) d = .err none := o1 _
          rw [e1, show outD (.err none) = .str "error None" from congrArg Dat.str errS_none] at r
          cases r
          refine ⟨_, s6 _ _ hR, by rw [List.length_replicate]; exact small (by omega), same_grow nR (s5.trans s6), ?_⟩
          rw [upd_same, List.replicate_succ']
        · obtain ⟨s5, hR⟩ := hP
          refine ⟨(by show 1 ≤ sizeLine; decide), fun A nA => ⟨A, 3, _, rfl, rfl, upd_same, by decide, by decide, (by show 1 * 3 ≤ sizeLine; decide), fun B nB => ?_⟩⟩
          have hB : (upd (upd H5 A (.lst [.str "error None"])) B (.lst (List.replicate (3 : Int).toNat [V.str "error None"]).flatten)) B = some (.lst (List.replicate 3 (.str "error None"))) := upd_same
          have s7 := (same_upd (o := .lst [.str "error None"]) nA).trans (same_upd (o := .lst (List.replicate (3 : Int).toNat [V.str "error None"]).flatten) nB)
          refine ⟨.list (List.replicate 3 (.str "error None")), .list (List.replicate 3 (.str "error None")), .lst (.of (s7 _ _ hR)) (dp_rep _ _), .lst (.of hB) (dp_rep _ _), by decide +kernel, by decide +kernel, _, rfl, iteN (by decide +kernel) ?_⟩
          exact ⟨_, _, rfl, sm.trans (s5.trans s7)⟩
      · obtain ⟨y3, y16, rfl, sm⟩ := hP
        have E0 : ("error None" : Str) = "error None" := rfl
        have LB : ∀ (z u : Str) (n : Nat), z.length ≤ 5000 → u.length ≤ 100 → z.length + u.length ≤ sizeLine := fun z u n h1 h2 => smallE (by omega)
        refine jnx_go (jset ?_)
        refine ⟨_, 200, rfl, rfl, by decide, by decide, by decide +kernel, by decide +kernel, _, _, rfl, rfl, LB _ _ 0 (by rw [ab_len]; decide) (by decide +kernel), ?_⟩
        refine ⟨_, 400, rfl, rfl, by decide, by decide, by decide +kernel, by decide +kernel, _, _, rfl, rfl, LB _ _ 0 (by rw [ap_len]; decide) (by decide +kernel), ?_⟩
        refine ⟨_, 200, rfl, rfl, by decide, by decide, by decide +kernel, by decide +kernel, _, _, rfl, rfl, LB _ _ 0 (by rw [ab_len]; decide) (by decide +kernel), ?_⟩
        refine ⟨_, 30, rfl, rfl, by decide, by decide, by decide +kernel, by decide +kernel, _, _, rfl, rfl, (by decide +kernel), _, _, rfl, rfl, (by decide +kernel), (by show 4 ≤ sizeLine; decide), fun LG nLG => ?_⟩
        have hLG : (upd H4 LG (.lst [.str (repS "a b " 200 ++ "a"), .str (repS "a+ " 400 ++ "a+"), .str (repS "a b " 200 ++ "A"), .str ("a*1" ++ repS "0" 30 ++ "1")])) LG = some (.lst [.str lo0, .str lo1, .str lo2, .str lo3]) := by
          rw [lo0_eq, lo1_eq, lo2_eq, lo3_eq]
          exact upd_same
        generalize upd H4 LG (.lst [.str (repS "a b " 200 ++ "a"), .str (repS "a+ " 400 ++ "a+"), .str (repS "a b " 200 ++ "A"), .str ("a*1" ++ repS "0" 30 ++ "1")]) = H5 at *
        refine ⟨_, rfl, LG, _, 0, _, rfl, rfl, .of hLG, rfl, 0, .str lo0, .str lo0, rfl, .str lo0, w0.2, .inl rfl, fun H6 u s6 r nw => ?_⟩
        rw [q0] at r
        cases r
        have hLG := s6 _ _ hLG
        refine ⟨_, rfl, LG, _, 1, _, rfl, rfl, .of hLG, rfl, 2, .str lo1, .str lo1, rfl, .str lo1, w1.2, .inr (.inr rfl), fun H7 u s7 r nw => ?_⟩
        rw [q1] at r
        cases r
        have hLG := s7 _ _ hLG
        refine ⟨_, rfl, LG, _, 2, _, rfl, rfl, .of hLG, rfl, 0, .str lo2, .str lo2, rfl, .str lo2, w2.2, .inl rfl, fun H8 u s8 r nw => ?_⟩
        rw [q2] at r
        cases r
        have hLG := s8 _ _ hLG
        refine ⟨_, rfl, LG, _, 3, _, rfl, rfl, .of hLG, rfl, 0, .str lo3, .str lo3, rfl, .str lo3, w3.2, .inl rfl, fun H9 u s9 r nw => ?_⟩
        rw [q3] at r
        cases r
        have hLG := s9 _ _ hLG
        refine ⟨(by show 4 ≤ sizeLine; decide), fun SM nSM => ?_⟩
        have hSM : (upd H9 SM (.lst [.str "error None", .str "error None", .str "error 400", .str "error None"])) SM = some (.lst [.str "error None", .str "error None", .str "error 400", .str "error None"]) := upd_same
        have hLG := same_upd (o := .lst [.str "error None", .str "error None", .str "error 400", .str "error None"]) nSM _ _ hLG
        generalize upd H9 SM (.lst [.str "error None", .str "error None", .str "error 400", .str "error None"]) = H10 at *
        refine ⟨_, rfl, LG, _, 3, _, rfl, rfl, .of hLG, rfl, 1, .str lo3, .str lo3, rfl, .str lo3, w3.2, .inr (.inl rfl), fun H11 u s11 r nw => ?_⟩
        rw [q4] at r
        have hr : ∃ t, u = .ref t ∧ H11 t = some (.tup [.str "a", .int 10000000000000000000000000000001]) := by
          cases r with
          | tup e p =>
            cases p with
            | cons p1 p =>
              cases p1
              cases p with
              | cons p2 p =>
                cases p2
                cases p
                exact ⟨_, rfl, e⟩
        obtain ⟨t1, rfl, ht1⟩ := hr
        have hSM := s11 _ _ hSM
        refine ⟨_, _, rfl, rfl, ⟨by decide, by decide, by decide⟩, _, _, rfl, rfl, (by show 2 ≤ sizeLine; decide), fun t2 nt2 => ?_⟩
        have s12 := same_upd (o := .tup [.str "a", .int ((10 : Int) ^ (31 : Int).toNat + 1)]) nt2
        have ht2 : (upd H11 t2 (.tup [.str "a", .int ((10 : Int) ^ (31 : Int).toNat + 1)])) t2 = some (.tup [.str "a", .int ((10 : Int) ^ (31 : Int).toNat + 1)]) := upd_same
        have ht1 := s12 _ _ ht1
        have hSM := s12 _ _ hSM
        generalize upd H11 t2 (.tup [.str "a", .int ((10 : Int) ^ (31 : Int).toNat + 1)]) = H12 at *
        refine ⟨.tuple [.str "a", .int 10000000000000000000000000000001], .tuple [.str "a", .int ((10 : Int) ^ (31 : Int).toNat + 1)], .tup (.of ht1) (.cons (.str _) (.cons (.int _) .nil)), .tup (.of ht2) (.cons (.str _) (.cons (.int _) .nil)), by decide +kernel, by decide +kernel, _, rfl, iteN (by decide +kernel) ?_⟩
        refine ⟨_, 400, rfl, rfl, by decide, by decide, by decide +kernel, by decide +kernel, _, _, rfl, rfl, LB _ _ 0 (by rw [ap_len]; decide) (by decide +kernel), 2, .str lo4, .str lo4, (by rw [lo4_eq]; rfl), .str lo4, w4.2, .inr (.inr rfl), fun H13 u s13 r nw => ?_⟩
        rw [q5] at r
        cases r
        refine ⟨_, 400, rfl, rfl, by decide, by decide, by decide +kernel, by decide +kernel, _, _, rfl, rfl, (by rw [ap_len]; exact smallE (by decide +kernel)), _, _, rfl, rfl, LB _ _ 0 (by rw [app_len, ap_len]; decide +kernel) (by decide +kernel), 2, .str lo5, .str lo5, (by rw [lo5_eq]; rfl), .str lo5, w5.2, .inr (.inr rfl), fun H14 u s14 r nw => ?_⟩
        rw [q6] at r
        cases r
        refine ⟨_, 300, rfl, rfl, by decide, by decide, by decide +kernel, by decide +kernel, _, _, rfl, rfl, LB _ _ 0 (by rw [a3_len]; decide) (by decide +kernel), 1, .str lo6, .str lo6, (by rw [lo6_eq]; rfl), .str lo6, w6.2, .inr (.inl rfl), fun H15 u s15 r nw => ?_⟩
        rw [q7] at r
        cases r
        have hSM := s15 _ _ (s14 _ _ (s13 _ _ hSM))
        refine ⟨(by show 3 ≤ sizeLine; decide), fun BD nBD => ?_⟩
        have hBD : (upd H15 BD (.lst [.str "error 400", .str "error 0", .str "error 300"])) BD = some (.lst [.str "error 400", .str "error 0", .str "error 300"]) := upd_same
        have hSM := same_upd (o := .lst [.str "error 400", .str "error 0", .str "error 300"]) nBD _ _ hSM
        generalize upd H15 BD (.lst [.str "error 400", .str "error 0", .str "error 300"]) = H16 at *
        refine ⟨_, rfl, _, 200, rfl, rfl, by decide, by decide, by decide +kernel, by decide +kernel, _, _, rfl, rfl, (by rw [ab_len]; exact smallE (by decide +kernel)), _, _, rfl, rfl, LB _ _ 0 (by rw [app_len, ab_len]; decide +kernel) (by decide +kernel), 0, .str lo7, .str lo7, (by rw [lo7_eq]; rfl), .str lo7, w7.2, .inl rfl, fun H17 u s17 r nw => ?_⟩
        rw [q8] at r
        cases r
        have hSM := s17 _ _ hSM
        have hBD := s17 _ _ hBD
        refine ⟨(by show 1 ≤ sizeLine; decide), fun x1 nx1 => ⟨BD, x1, _, _, rfl, rfl, same_upd nx1 _ _ hBD, upd_same, (by show 3 + 1 ≤ sizeLine; decide), fun x2 nx2 => ⟨(by show 4 ≤ sizeLine; decide), fun x3 nx3 => ?_⟩⟩⟩
        have hx2 : (upd (upd (upd H17 x1 (.lst [.str "error 0"])) x2 (.lst ([.str "error 400", .str "error 0", .str "error 300"] ++ [.str "error 0"]))) x3 (.lst [.str "error 400", .str "error 0", .str "error 300", .str "error 0"])) x2 = some (.lst [.str "error 400", .str "error 0", .str "error 300", .str "error 0"]) := same_upd nx3 _ _ upd_same
        have hx3 : (upd (upd (upd H17 x1 (.lst [.str "error 0"])) x2 (.lst ([.str "error 400", .str "error 0", .str "error 300"] ++ [.str "error 0"]))) x3 (.lst [.str "error 400", .str "error 0", .str "error 300", .str "error 0"])) x3 = some (.lst [.str "error 400", .str "error 0", .str "error 300", .str "error 0"]) := upd_same
        have hSM := same_upd (o := .lst [.str "error 400", .str "error 0", .str "error 300", .str "error 0"]) nx3 _ _ (same_upd (o := .lst ([.str "error 400", .str "error 0", .str "error 300"] ++ [.str "error 0"])) nx2 _ _ (same_upd (o := .lst [.str "error 0"]) nx1 _ _ hSM))
        generalize upd (upd (upd H17 x1 (.lst [.str "error 0"])) x2 (.lst ([.str "error 400", .str "error 0", .str "error 300"] ++ [.str "error 0"]))) x3 (.lst [.str "error 400", .str "error 0", .str "error 300", .str "error 0"]) = H18 at *
        refine ⟨.list [.str "error 400", .str "error 0", .str "error 300", .str "error 0"], .list [.str "error 400", .str "error 0", .str "error 300", .str "error 0"], .lst (.of hx2) (.cons (.str _) (.cons (.str _) (.cons (.str _) (.cons (.str _) .nil)))), .lst (.of hx3) (.cons (.str _) (.cons (.str _) (.cons (.str _) (.cons (.str _) .nil)))), by decide +kernel, by decide +kernel, _, rfl, iteN (by decide +kernel) ?_⟩
        refine ⟨_, rfl, (by show 4 ≤ sizeLine; decide), fun x4 nx4 => ?_⟩
        refine ⟨.list [.str "error None", .str "error None", .str "error 400", .str "error None"], .list [.str "error None", .str "error None", .str "error 400", .str "error None"], .lst (.of (same_upd nx4 _ _ hSM)) (.cons (.str _) (.cons (.str _) (.cons (.str _) (.cons (.str _) .nil)))), .lst (.of upd_same) (.cons (.str _) (.cons (.str _) (.cons (.str _) (.cons (.str _) .nil)))), by decide +kernel, by decide +kernel, ?_⟩
        rw [show PyData.eqv (.list [.str "error None", .str "error None", .str "error 400", .str "error None"]) (.list [.str "error None", .str "error None", .str "error 400", .str "error None"]) = true by decide +kernel]
        exact q _
end
end UP

set_option Elab.async false
set_option linter.all false
set_option maxRecDepth 100000
set_option maxHeartbeats 4000000
namespace UP
open PySem PySem.Spec PyProof.Rows L2 HotX L2H UPH UPD
section
variable {K : PySem.W.Frag} {h : Heap} {mg : Str → Option Value}
theorem df_mk {x : Str} {st : Stmt} {f : Addr} {od an : Option Addr} {sl : Array (Option Value)} {oc kV dc pm cd ct : Value} (X : K.In h) (G : h.Ns mainGlobals mg) (a : PySem.W.nsIn K mainGlobals x = some (some (.ref f)))
    (l : K.lookup f = some ⟨oc, od, .func (PySem.W.fnOf x x (defArgs st) (defBody st) (defScope st) .none kV dc pm an cd ct), sl⟩) (c : PySem.W.codeIn K cd x = true) (k : PySem.W.keepIn K (.ref f) = true) : Df K mg x st :=
  ⟨f, _, PySem.W.mg_of X G a, fun_mk l c k⟩
theorem cst_mk {x : Str} {i : Int} {t : Tok} (X : K.In h) (G : h.Ns mainGlobals mg) (a : PySem.W.nsIn K mainGlobals x = some (some (.int i t))) : ∃ t, mg x = some (.int i t) := ⟨t, PySem.W.mg_of X G a⟩
end
/-! ### the classes -/
def CA (mg : Str → Option Value) (n : Str) : Addr := match mg n with
  | some (.ref C) => C
  | _ => 0
theorem ca_of {mg : Str → Option Value} {n : Str} {C : Addr} (h : mg n = some (.ref C)) : CA mg n = C := by
  unfold CA
  rw [h]
def P2 (K : PySem.W.Frag) (mg : Str → Option Value) (nm n : Str) (r : Bool) : Prop := ∃ D C, mg nm = some (.ref D) ∧ mg n = some (.ref C) ∧ PySem.W.kitOne K (.ref D) (.ref C) = some r
def P1 (K : PySem.W.Frag) (mg : Str → Option Value) (nm : Str) : Prop := ∃ D B, mg nm = some (.ref D) ∧ mg "PairError" = some (.ref B) ∧ Ex K mg nm D ∧ ExcC K D ∧ PySem.W.exmOne K (.ref D) (.ref B) = some true ∧ PySem.W.kitOne K (.ref D) (.ref B) = some true ∧ PySem.W.kitOne K (.ref D) (.type "ValueError") = some true
section
variable {K : PySem.W.Frag} {h : Heap} {mg : Str → Option Value}
theorem p2_mk {nm n : Str} {r : Bool} {D C : Addr} (X : K.In h) (G : h.Ns mainGlobals mg) (a : PySem.W.nsIn K mainGlobals nm = some (some (.ref D))) (b : PySem.W.nsIn K mainGlobals n = some (some (.ref C))) (k : PySem.W.kitOne K (.ref D) (.ref C) = some r) : P2 K mg nm n r := ⟨D, C, PySem.W.mg_of X G a, PySem.W.mg_of X G b, k⟩
theorem p1_mk {nm : Str} {D B : Addr} (X : K.In h) (G : h.Ns mainGlobals mg) (a : PySem.W.nsIn K mainGlobals nm = some (some (.ref D))) (b : PySem.W.nsIn K mainGlobals "PairError" = some (some (.ref B)))
    (x : PySem.W.excIn K D [.type "ValueError", .type "Exception", .type "BaseException", .type "object"] "ValueError.__new__" = true) (k : PySem.W.keepIn K (.ref D) = true) (bs : PySem.W.subIn K (.ref D) (.type "BaseException") = some true) (t : PySem.W.typeIn K (.ref D) = some (.type "type"))
    (e1 : PySem.W.findIn K (.ref D) "__getattribute__" = some (some (.builtin "BaseException.__getattribute__"))) (e2 : PySem.W.findIn K (.ref D) "__getattr__" = some none) (e3 : PySem.W.hasDictIn K D = true) (e4 : PySem.W.findIn K (.ref D) "__class__" = some (some (.builtin "object.__class__")))
    (e5 : PySem.W.specialIn K (.builtin "object.__class__") "__get__" = some (some (.builtin "getset_descriptor.__get__"))) (e6 : PySem.W.takesIn K (.builtin "object.__class__") = some true) (e7 : PySem.W.mroIn K D (.type "object") = some true)
    (m : PySem.W.exmOne K (.ref D) (.ref B) = some true) (k1 : PySem.W.kitOne K (.ref D) (.ref B) = some true) (k2 : PySem.W.kitOne K (.ref D) (.type "ValueError") = some true) : P1 K mg nm :=
  ⟨D, B, PySem.W.mg_of X G a, PySem.W.mg_of X G b, ⟨PySem.W.mg_of X G a, x, k, bs, t⟩, ⟨e1, e2, bs, e3, e4, e5, e6, e7⟩, m, k1, k2⟩
theorem clsF_of {nm : Str} (h : P1 K mg nm) (k : ∀ n, n ∈ allL → P2 K mg nm n (decide (n = nm))) : ClsH K (CA mg) nm ∧ Ex K mg nm (CA mg nm) := by
  obtain ⟨D, B, g, gb, ex, ec, m, k1, k2⟩ := h
  have eD := ca_of g
  have eB := ca_of gb
  refine ⟨⟨by rw [eD]; exact ec, by rw [eD, eB]; exact m, fun n hn => ?_, by rw [eD]; exact k2⟩, by rw [eD]; exact ex⟩
  obtain ⟨D', C, g', gc, kk⟩ := k n hn
  rw [g] at g'
  cases g'
  rw [eD, ca_of gc]
  exact kk
def P0 (K : PySem.W.Frag) (mg : Str → Option Value) (nm : Str) : Prop := ∃ D B, mg nm = some (.ref D) ∧ mg "PairError" = some (.ref B) ∧ ExcC K D ∧ PySem.W.exmOne K (.ref D) (.ref B) = some true ∧ PySem.W.kitOne K (.ref D) (.type "ValueError") = some true
theorem p0_mk {nm : Str} {D B : Addr} (X : K.In h) (G : h.Ns mainGlobals mg) (a : PySem.W.nsIn K mainGlobals nm = some (some (.ref D))) (b : PySem.W.nsIn K mainGlobals "PairError" = some (some (.ref B))) (bs : PySem.W.subIn K (.ref D) (.type "BaseException") = some true)
    (e1 : PySem.W.findIn K (.ref D) "__getattribute__" = some (some (.builtin "BaseException.__getattribute__"))) (e2 : PySem.W.findIn K (.ref D) "__getattr__" = some none) (e3 : PySem.W.hasDictIn K D = true) (e4 : PySem.W.findIn K (.ref D) "__class__" = some (some (.builtin "object.__class__")))
    (e5 : PySem.W.specialIn K (.builtin "object.__class__") "__get__" = some (some (.builtin "getset_descriptor.__get__"))) (e6 : PySem.W.takesIn K (.builtin "object.__class__") = some true) (e7 : PySem.W.mroIn K D (.type "object") = some true) (m : PySem.W.exmOne K (.ref D) (.ref B) = some true) (k2 : PySem.W.kitOne K (.ref D) (.type "ValueError") = some true) : P0 K mg nm :=
  ⟨D, B, PySem.W.mg_of X G a, PySem.W.mg_of X G b, ⟨e1, e2, bs, e3, e4, e5, e6, e7⟩, m, k2⟩
theorem clsF0_of {nm : Str} (h : P0 K mg nm) (k : ∀ n, n ∈ allL → P2 K mg nm n (decide (n = nm))) : ClsH K (CA mg) nm := by
  obtain ⟨D, B, g, gb, ec, m, k2⟩ := h
  have eD := ca_of g
  have eB := ca_of gb
  refine ⟨by rw [eD]; exact ec, by rw [eD, eB]; exact m, fun n hn => ?_, by rw [eD]; exact k2⟩
  obtain ⟨D', C, g', gc, kk⟩ := k n hn
  rw [g] at g'
  cases g'
  rw [eD, ca_of gc]
  exact kk
theorem own_InvalidText_mk {C fI N : Addr} {nm q : Str} {bs bm sub : List Value} {sn : List Str} {ab : Bool} {col : Option Bool} {dd : Option Addr} {k0 k1 k2 k3 k5 : Option Value} {od an : Option Addr} {sl : Array (Option Value)} {oc kV dc pm cd ct : Value} (X : K.In h) (G : h.Ns mainGlobals mg) (a : PySem.W.nsIn K mainGlobals "InvalidText" = some (some (.ref C)))
    (l : K.lookup C = some (excClassObj nm q C N bs bm true sn sub ab col dd k0 k1 k2 k3 k5 "ValueError.__new__")) (r : PySem.HandSPX.refsVE bm = true) (sa : PySem.W.findIn K (.ref C) "__setattr__" = some (some (.builtin "object.__setattr__"))) (xc : PySem.W.subIn K (.ref C) (.type "BaseException") = some true) (ty : PySem.W.typeIn K (.ref C) = some (.type "type")) (kc : PySem.W.keepIn K (.ref C) = true)
    (ga : PySem.W.findIn K (.ref C) "__getattribute__" = some (some (.builtin "BaseException.__getattribute__"))) (gg : PySem.W.findIn K (.ref C) "__getattr__" = some none) (hd : PySem.W.hasDictIn K C = true) (em : PySem.W.exmOne K (.ref C) (.ref C) = some true) (n : PySem.W.findIn K (.ref C) "index" = some none) (ic : PySem.W.findIn K (.ref C) "__init__" = some (some (.ref fI))) (ti : PySem.W.typeIn K (.ref fI) = some (.type "function")) (fl : K.lookup fI = some ⟨oc, od, .func (PySem.W.fnOf "__init__" "InvalidText.__init__" (defArgs s_index) (defBody s_index) (defScope s_index) .none kV dc pm an cd ct), sl⟩) (fc : PySem.W.codeIn K cd "InvalidText.__init__" = true) (fk : PySem.W.keepIn K (.ref fI) = true) : ∃ C, InvF K mg C :=
  ⟨C, PySem.W.mg_of X G a, ⟨⟨nm, q, N, bs, bm, sn, sub, ab, col, dd, k0, k1, k2, k3, k5, l, r⟩, sa, xc, ty, kc⟩, n, ⟨ga, gg, xc, hd⟩, em, fI, _, ic, ti, fun_mk fl fc fk⟩
theorem cmg_of {nm : Str} (h : P0 K mg nm) (k : ∀ n, n ∈ allL → P2 K mg nm n (decide (n = nm))) : CmgH mg (CA mg) := by
  refine ⟨fun n hn => ?_⟩
  have hn : n ∈ allL ∨ n = "PairError" := by
    rcases List.mem_append.mp hn with z | z
    · exact .inl z
    · exact .inr (List.mem_singleton.mp z)
  rcases hn with z | z
  · obtain ⟨D, C, _, gc, _⟩ := k n z
    rw [ca_of gc]
    exact gc
  · obtain ⟨D, B, _, gb, _⟩ := h
    rw [z, ca_of gb]
    exact gb
end
/-- all that the top has written -/
def ActF (K : PySem.W.Frag) (w : World) (mg : Str → Option Value) : Prop := ∃ aA, ActT K w mg aA
theorem act_mk {K : PySem.W.Frag} {w : World} {h : Heap} {mg : Str → Option Value} {aM : Addr} {eM : Array DictEntry} {nM : Nat} {k1 k2 : Tok} (X : K.In h) (G : h.Ns mainGlobals mg) (a : PySem.W.nsIn K mainGlobals "ACTIONS" = some (some (.ref aM))) (l : K.lookup aM = some ⟨.type "dict", none, .dict eM nM, #[]⟩) (kl : PySem.W.KeysLit w.params eM.toList) (m1 : PySem.W.nsIn K aM "+" = some (some (.str "waits" k1))) (m2 : PySem.W.nsIn K aM "-" = some (some (.str "leaves" k2))) : ActF K w mg :=
  ⟨aM, PySem.W.mg_of X G a, ⟨eM, nM, _, l, kl, m1, k1, rfl⟩, ⟨eM, nM, _, l, kl, m2, k2, rfl⟩⟩
structure Top (K : PySem.W.Frag) (w : World) (mg : Str → Option Value) : Prop where
  T : Tx mg
  o_InvalidText : P0 K mg "InvalidText"
  i_InvalidText : ∃ C, InvF K mg C
  k_InvalidText_InvalidText : P2 K mg "InvalidText" "InvalidText" true
  k_InvalidText_Contradiction : P2 K mg "InvalidText" "Contradiction" false
  k_InvalidText_Impossible : P2 K mg "InvalidText" "Impossible" false
  k_InvalidText_InvalidCommand : P2 K mg "InvalidText" "InvalidCommand" false
  k_InvalidText_InvalidCounts : P2 K mg "InvalidText" "InvalidCounts" false
  k_InvalidText_InvalidEffects : P2 K mg "InvalidText" "InvalidEffects" false
  k_InvalidText_InvalidItems : P2 K mg "InvalidText" "InvalidItems" false
  k_InvalidText_InvalidKind : P2 K mg "InvalidText" "InvalidKind" false
  k_InvalidText_InvalidKinds : P2 K mg "InvalidText" "InvalidKinds" false
  k_InvalidText_InvalidNumber : P2 K mg "InvalidText" "InvalidNumber" false
  k_InvalidText_InvalidPosition : P2 K mg "InvalidText" "InvalidPosition" false
  k_InvalidText_InvalidRecord : P2 K mg "InvalidText" "InvalidRecord" false
  k_InvalidText_InvalidSequence : P2 K mg "InvalidText" "InvalidSequence" false
  k_InvalidText_InvalidState : P2 K mg "InvalidText" "InvalidState" false
  k_InvalidText_NothingToUndo : P2 K mg "InvalidText" "NothingToUndo" false
  k_InvalidText_SameEffect : P2 K mg "InvalidText" "SameEffect" false
  k_InvalidText_TooLong : P2 K mg "InvalidText" "TooLong" false
  k_InvalidText_TooMany : P2 K mg "InvalidText" "TooMany" false
  d_is_whole : Df K mg "is_whole" s_is_whole
  d_is_within : Df K mg "is_within" s_is_within
  d_is_listed : Df K mg "is_listed" s_is_listed
  d_is_couple : Df K mg "is_couple" s_is_couple
  d_is_kind : Df K mg "is_kind" s_is_kind
  d_is_run : Df K mg "is_run" s_is_run
  d_is_sequence : Df K mg "is_sequence" s_is_sequence
  d_is_entry : Df K mg "is_entry" s_is_entry
  d_is_record : Df K mg "is_record" s_is_record
  d_is_digits : Df K mg "is_digits" s_is_digits
  d_number_in : Df K mg "number_in" s_number_in
  d_is_run_word : Df K mg "is_run_word" s_is_run_word
  d_is_exact : Df K mg "is_exact" s_is_exact
  d_run_in : Df K mg "run_in" s_run_in
  d_is_entry_word : Df K mg "is_entry_word" s_is_entry_word
  d_entry_in : Df K mg "entry_in" s_entry_in
  d_words_of : Df K mg "words_of" s_words_of
  d_check_forms : Df K mg "check_forms" s_check_forms
  d_parse_sequence : Df K mg "parse_sequence" s_parse_sequence
  d_parse_state : Df K mg "parse_state" s_parse_state
  d_parse_record : Df K mg "parse_record" s_parse_record
  d_law_bag : Df K mg "_law_bag" s_law_bag
  d_law_stir : Df K mg "_law_stir" s_law_stir
  d_law_draw : Df K mg "_law_draw" s_law_draw
  d_law_class : Df K mg "_law_class" s_law_class
  d_law_is_kind : Df K mg "_law_is_kind" s_law_is_kind
  d_law_run : Df K mg "_law_run" s_law_run
  d_law_plain : Df K mg "_law_plain" s_law_plain
  d_law_words : Df K mg "_law_words" s_law_words
  d_law_sequence_of : Df K mg "_law_sequence_of" s_law_sequence_of
  d_law_state_of : Df K mg "_law_state_of" s_law_state_of
  d_law_record_of : Df K mg "_law_record_of" s_law_record_of
  d_law_read : Df K mg "_law_read" s_law_read
  d_law_changed : Df K mg "_law_changed" s_law_changed
  act : ActF K w mg
theorem Top.law {P : Program} {w : World} {K : PySem.W.Frag} {mg : Str → Option Value} (Y : Top K w mg) {f : Addr} {fd : FuncData} (F : Fun K "law" "law" s_law f fd) (base : Heap) : FnC P w K mg base f fd ["script"] (sp_law K) := by
  have T := Y.T
  obtain ⟨aM, TD⟩ := Y.act
  have q_InvalidText : ∀ n, n ∈ allL → P2 K mg "InvalidText" n (decide (n = "InvalidText")) := by
    intro n hn
    simp only [allL, mineL, odd1, odd2, odd3, odd4, odd5, List.cons_append, List.nil_append, List.mem_cons, List.not_mem_nil, or_false] at hn
    rcases hn with rfl | rfl | rfl | rfl | rfl | rfl | rfl | rfl | rfl | rfl | rfl | rfl | rfl | rfl | rfl | rfl | rfl | rfl
    · exact Y.k_InvalidText_InvalidText
    · exact Y.k_InvalidText_Contradiction
    · exact Y.k_InvalidText_Impossible
    · exact Y.k_InvalidText_InvalidCommand
    · exact Y.k_InvalidText_InvalidCounts
    · exact Y.k_InvalidText_InvalidEffects
    · exact Y.k_InvalidText_InvalidItems
    · exact Y.k_InvalidText_InvalidKind
    · exact Y.k_InvalidText_InvalidKinds
    · exact Y.k_InvalidText_InvalidNumber
    · exact Y.k_InvalidText_InvalidPosition
    · exact Y.k_InvalidText_InvalidRecord
    · exact Y.k_InvalidText_InvalidSequence
    · exact Y.k_InvalidText_InvalidState
    · exact Y.k_InvalidText_NothingToUndo
    · exact Y.k_InvalidText_SameEffect
    · exact Y.k_InvalidText_TooLong
    · exact Y.k_InvalidText_TooMany
  have F_InvalidText := clsF0_of Y.o_InvalidText q_InvalidText
  have I_InvalidText : InvF K mg (CA mg "InvalidText") := by
    obtain ⟨C, z⟩ := Y.i_InvalidText
    rw [ca_of z.g]
    exact z
  have CM := cmg_of Y.o_InvalidText q_InvalidText
  have h_0 := ok_is_whole (P := P) (w := w) (base := base) Y.d_is_whole T
  have h_1 := ok_is_within (P := P) (w := w) (base := base) Y.d_is_within h_0
  have h_2 := ok_is_listed (P := P) (w := w) (base := base) Y.d_is_listed T
  have h_3 := ok_is_couple (P := P) (w := w) (base := base) Y.d_is_couple T
  have h_4 := ok_is_kind (P := P) (w := w) (base := base) Y.d_is_kind T
  have h_5 := ok_is_run (P := P) (w := w) (base := base) Y.d_is_run T h_3 h_4 h_1
  have h_6 := ok_is_sequence (P := P) (w := w) (base := base) Y.d_is_sequence T h_2 h_5
  have h_7 := ok_is_entry (P := P) (w := w) (base := base) Y.d_is_entry T h_3 h_4
  have h_8 := ok_is_record (P := P) (w := w) (base := base) Y.d_is_record T h_2 h_7
  have h_9 := ok_law_bag (P := P) (w := w) (base := base) Y.d_law_bag T
  have h_10 := ok_law_stir (P := P) (w := w) (base := base) Y.d_law_stir T
  have h_11 := ok_law_draw (P := P) (w := w) (base := base) Y.d_law_draw T h_10
  have h_12 := okD_is_digits (P := P) (w := w) (base := base) Y.d_is_digits T
  have h_13 := ok_number_in (P := P) (w := w) (base := base) Y.d_number_in T
  have h_14 := ok_is_run_word (P := P) (w := w) (base := base) Y.d_is_run_word h_4 h_12
  have h_15 := ok_is_exact (P := P) (w := w) (base := base) Y.d_is_exact
  have h_16 := ok_run_in (P := P) (w := w) (base := base) Y.d_run_in h_13
  have h_17 := ok_is_entry_word (P := P) (w := w) (base := base) Y.d_is_entry_word h_4
  have h_18 := ok_entry_in (P := P) (w := w) (base := base) Y.d_entry_in TD
  have h_19 := okX_words_of (P := P) (w := w) (base := base) Y.d_words_of T I_InvalidText
  have h_20 := okX_check_forms (P := P) (w := w) (base := base) Y.d_check_forms I_InvalidText
  have h_21 := okX_parse_sequence (P := P) (w := w) (base := base) Y.d_parse_sequence T I_InvalidText h_19 h_20 h_14 h_16 h_15 h_6
  have h_22 := okX_parse_state (P := P) (w := w) (base := base) Y.d_parse_state T I_InvalidText h_19 h_20 h_14 h_16 h_15
  have h_23 := okX_parse_record (P := P) (w := w) (base := base) Y.d_parse_record T I_InvalidText h_19 h_20 h_17 h_18 h_8
  have h_24 := ok_law_class (P := P) (w := w) (base := base) (CX := CX0) Y.d_law_class T CM
  have h_25 := ok_law_read (P := P) (w := w) (base := base) Y.d_law_read T CM F_InvalidText I_InvalidText h_24 h_21 h_22 h_23
  have h_26 := ok_law_is_kind (P := P) (w := w) (base := base) Y.d_law_is_kind T
  have h_27 := ok_law_run (P := P) (w := w) (base := base) Y.d_law_run T h_26
  have h_28 := ok_law_plain (P := P) (w := w) (base := base) Y.d_law_plain T h_27
  have h_29 := ok_law_words (P := P) (w := w) (base := base) Y.d_law_words T
  have h_30 := ok_law_state_of (P := P) (w := w) (base := base) Y.d_law_state_of T h_29 h_27 h_28
  have h_31 := ok_law_record_of (P := P) (w := w) (base := base) Y.d_law_record_of T h_29 h_26
  have h_32 := ok_law_sequence_of (P := P) (w := w) (base := base) Y.d_law_sequence_of T h_29 h_27 h_28
  have h_33 := ok_law_changed (P := P) (w := w) (base := base) Y.d_law_changed T h_11
  exact fn_law F T h_9 h_11 h_33 h_32 h_30 h_31 h_25
theorem all_mk {P : Program} {w : World} {K : PySem.W.Frag} {h : Heap} {mg : Str → Option Value} {fa f : Addr} {od an : Option Addr} {sl : Array (Option Value)} {oc kV dc pm cd ct : Value} (X : K.In h) (G : h.Ns mainGlobals mg) (hfa : mg "law" = some (.ref fa)) (a : PySem.W.nsIn K mainGlobals "law" = some (some (.ref f)))
    (l : K.lookup f = some ⟨oc, od, .func (PySem.W.fnOf "law" "law" (defArgs s_law) (defBody s_law) (defScope s_law) .none kV dc pm an cd ct), sl⟩) (c : PySem.W.codeIn K cd "law" = true) (k : PySem.W.keepIn K (.ref f) = true) (Y : Top K w mg) :
    ∃ fd : FuncData, (∀ (s : Shared) (v : Value), BindsTo s fd ⟨[v], []⟩ [("script", v)]) ∧ ∀ base : Heap, K.In base → base.Ns mainGlobals mg → FnC P w K mg base fa fd ["script"] (sp_law K) := by
  have e := hfa.symm.trans (PySem.W.mg_of X G a)
  cases e
  exact ⟨_, fun s v => .of_eq rfl, fun base _ _ => Y.law (fun_mk (st := s_law) l c k) base⟩
end UP
open PySem PySem.W PyProof.Rows
set_option maxHeartbeats 0 in
theorem PySem.Challenge.cw_unlikepairs_k55_text_errors_holds : PySem.Challenge.rw_unlikepairs_k55_text_errors.Holds := by
  w_on; o_law; k_head; (case hw => w_witness2)
  k_fill
  refine UP.walkC (l := PySem.Challenge.rw_unlikepairs_k55_text_errors) (n := 63) (x := "script") (sp := fun w => UP.sp_law _) rfl (by decide) rfl (fun w h Y => PySem.W.kIn_of Y) ?F (fun _ _ a ns hl hS => ⟨a, ns, rfl, hS, hl, fun _ => rfl⟩)
  case F =>
    intro w mg fa h KX G hmg
    refine' UP.all_mk KX G hmg ?a ?l ?c ?k ?Y
    (case a => k_is); (case l => k_is); (case c => k_is); (case k => k_is)
    case Y =>
      constructor
      · constructor
        · refine' PySem.W.mg_none_of KX G ?z; (case z => k_is)
        · refine' PySem.W.mg_none_of KX G ?z; (case z => k_is)
        · refine' PySem.W.mg_none_of KX G ?z; (case z => k_is)
        · refine' PySem.W.mg_none_of KX G ?z; (case z => k_is)
        · refine' PySem.W.mg_none_of KX G ?z; (case z => k_is)
        · refine' PySem.W.mg_none_of KX G ?z; (case z => k_is)
        · refine' PySem.W.mg_none_of KX G ?z; (case z => k_is)
        · refine' PySem.W.mg_none_of KX G ?z; (case z => k_is)
        · refine' PySem.W.mg_none_of KX G ?z; (case z => k_is)
        · refine' PySem.W.mg_none_of KX G ?z; (case z => k_is)
        · refine' PySem.W.mg_none_of KX G ?z; (case z => k_is)
        · refine' PySem.W.mg_none_of KX G ?z; (case z => k_is)
        · refine' PySem.W.mg_none_of KX G ?z; (case z => k_is)
        · refine' PySem.W.mg_none_of KX G ?z; (case z => k_is)
        · refine' PySem.W.mg_none_of KX G ?z; (case z => k_is)
        · refine' PySem.W.mg_none_of KX G ?z; (case z => k_is)
        · refine' PySem.W.mg_none_of KX G ?z; (case z => k_is)
        · refine' PySem.W.mg_none_of KX G ?z; (case z => k_is)
        · refine' PySem.W.mg_none_of KX G ?z; (case z => k_is)
        · refine' PySem.W.mg_none_of KX G ?z; (case z => k_is)
        · refine' PySem.W.mg_none_of KX G ?z; (case z => k_is)
        · refine' PySem.W.mg_none_of KX G ?z; (case z => k_is)
        · refine' PySem.W.mg_none_of KX G ?z; (case z => k_is)
        · refine' UP.cst_mk KX G ?z; (case z => k_is)
        · refine' UP.cst_mk KX G ?z; (case z => k_is)
        · refine' UP.cst_mk KX G ?z; (case z => k_is)
        · refine' UP.cst_mk KX G ?z; (case z => k_is)
      · refine' UP.p0_mk KX G ?a ?b ?bs ?e1 ?e2 ?e3 ?e4 ?e5 ?e6 ?e7 ?m ?k2; (case a => k_is); (case b => k_is); (case bs => k_is); (case e1 => k_is); (case e2 => k_is); (case e3 => k_is); (case e4 => k_is); (case e5 => k_is); (case e6 => k_is); (case e7 => k_is); (case m => kts_exm); (case k2 => kit_is)
      · refine' UP.own_InvalidText_mk KX G ?a ?l ?r ?sa ?xc ?ty ?kc ?ga ?gg ?hd ?em ?n ?ic ?ti ?fl ?fc ?fk; (case a => k_is); (case l => k_is); (case r => decide); (case em => kts_exm); (case sa => k_is); (case xc => k_is); (case ty => k_is); (case kc => k_is); (case ga => k_is); (case gg => k_is); (case hd => k_is); (case n => k_is); (case ic => k_is); (case ti => k_is); (case fl => k_is); (case fc => k_is); (case fk => k_is)
      · refine' UP.p2_mk KX G ?a ?b ?k; (case a => k_is); (case b => k_is); (case k => kit_is)
      · refine' UP.p2_mk KX G ?a ?b ?k; (case a => k_is); (case b => k_is); (case k => kit_is)
      · refine' UP.p2_mk KX G ?a ?b ?k; (case a => k_is); (case b => k_is); (case k => kit_is)
      · refine' UP.p2_mk KX G ?a ?b ?k; (case a => k_is); (case b => k_is); (case k => kit_is)
      · refine' UP.p2_mk KX G ?a ?b ?k; (case a => k_is); (case b => k_is); (case k => kit_is)
      · refine' UP.p2_mk KX G ?a ?b ?k; (case a => k_is); (case b => k_is); (case k => kit_is)
      · refine' UP.p2_mk KX G ?a ?b ?k; (case a => k_is); (case b => k_is); (case k => kit_is)
      · refine' UP.p2_mk KX G ?a ?b ?k; (case a => k_is); (case b => k_is); (case k => kit_is)
      · refine' UP.p2_mk KX G ?a ?b ?k; (case a => k_is); (case b => k_is); (case k => kit_is)
      · refine' UP.p2_mk KX G ?a ?b ?k; (case a => k_is); (case b => k_is); (case k => kit_is)
      · refine' UP.p2_mk KX G ?a ?b ?k; (case a => k_is); (case b => k_is); (case k => kit_is)
      · refine' UP.p2_mk KX G ?a ?b ?k; (case a => k_is); (case b => k_is); (case k => kit_is)
      · refine' UP.p2_mk KX G ?a ?b ?k; (case a => k_is); (case b => k_is); (case k => kit_is)
      · refine' UP.p2_mk KX G ?a ?b ?k; (case a => k_is); (case b => k_is); (case k => kit_is)
      · refine' UP.p2_mk KX G ?a ?b ?k; (case a => k_is); (case b => k_is); (case k => kit_is)
      · refine' UP.p2_mk KX G ?a ?b ?k; (case a => k_is); (case b => k_is); (case k => kit_is)
      · refine' UP.p2_mk KX G ?a ?b ?k; (case a => k_is); (case b => k_is); (case k => kit_is)
      · refine' UP.p2_mk KX G ?a ?b ?k; (case a => k_is); (case b => k_is); (case k => kit_is)
      · refine' UP.df_mk KX G ?a ?l ?c ?k; (case a => k_is); (case l => k_is); (case c => k_is); (case k => k_is)
      · refine' UP.df_mk KX G ?a ?l ?c ?k; (case a => k_is); (case l => k_is); (case c => k_is); (case k => k_is)
      · refine' UP.df_mk KX G ?a ?l ?c ?k; (case a => k_is); (case l => k_is); (case c => k_is); (case k => k_is)
      · refine' UP.df_mk KX G ?a ?l ?c ?k; (case a => k_is); (case l => k_is); (case c => k_is); (case k => k_is)
      · refine' UP.df_mk KX G ?a ?l ?c ?k; (case a => k_is); (case l => k_is); (case c => k_is); (case k => k_is)
      · refine' UP.df_mk KX G ?a ?l ?c ?k; (case a => k_is); (case l => k_is); (case c => k_is); (case k => k_is)
      · refine' UP.df_mk KX G ?a ?l ?c ?k; (case a => k_is); (case l => k_is); (case c => k_is); (case k => k_is)
      · refine' UP.df_mk KX G ?a ?l ?c ?k; (case a => k_is); (case l => k_is); (case c => k_is); (case k => k_is)
      · refine' UP.df_mk KX G ?a ?l ?c ?k; (case a => k_is); (case l => k_is); (case c => k_is); (case k => k_is)
      · refine' UP.df_mk KX G ?a ?l ?c ?k; (case a => k_is); (case l => k_is); (case c => k_is); (case k => k_is)
      · refine' UP.df_mk KX G ?a ?l ?c ?k; (case a => k_is); (case l => k_is); (case c => k_is); (case k => k_is)
      · refine' UP.df_mk KX G ?a ?l ?c ?k; (case a => k_is); (case l => k_is); (case c => k_is); (case k => k_is)
      · refine' UP.df_mk KX G ?a ?l ?c ?k; (case a => k_is); (case l => k_is); (case c => k_is); (case k => k_is)
      · refine' UP.df_mk KX G ?a ?l ?c ?k; (case a => k_is); (case l => k_is); (case c => k_is); (case k => k_is)
      · refine' UP.df_mk KX G ?a ?l ?c ?k; (case a => k_is); (case l => k_is); (case c => k_is); (case k => k_is)
      · refine' UP.df_mk KX G ?a ?l ?c ?k; (case a => k_is); (case l => k_is); (case c => k_is); (case k => k_is)
      · refine' UP.df_mk KX G ?a ?l ?c ?k; (case a => k_is); (case l => k_is); (case c => k_is); (case k => k_is)
      · refine' UP.df_mk KX G ?a ?l ?c ?k; (case a => k_is); (case l => k_is); (case c => k_is); (case k => k_is)
      · refine' UP.df_mk KX G ?a ?l ?c ?k; (case a => k_is); (case l => k_is); (case c => k_is); (case k => k_is)
      · refine' UP.df_mk KX G ?a ?l ?c ?k; (case a => k_is); (case l => k_is); (case c => k_is); (case k => k_is)
      · refine' UP.df_mk KX G ?a ?l ?c ?k; (case a => k_is); (case l => k_is); (case c => k_is); (case k => k_is)
      · refine' UP.df_mk KX G ?a ?l ?c ?k; (case a => k_is); (case l => k_is); (case c => k_is); (case k => k_is)
      · refine' UP.df_mk KX G ?a ?l ?c ?k; (case a => k_is); (case l => k_is); (case c => k_is); (case k => k_is)
      · refine' UP.df_mk KX G ?a ?l ?c ?k; (case a => k_is); (case l => k_is); (case c => k_is); (case k => k_is)
      · refine' UP.df_mk KX G ?a ?l ?c ?k; (case a => k_is); (case l => k_is); (case c => k_is); (case k => k_is)
      · refine' UP.df_mk KX G ?a ?l ?c ?k; (case a => k_is); (case l => k_is); (case c => k_is); (case k => k_is)
      · refine' UP.df_mk KX G ?a ?l ?c ?k; (case a => k_is); (case l => k_is); (case c => k_is); (case k => k_is)
      · refine' UP.df_mk KX G ?a ?l ?c ?k; (case a => k_is); (case l => k_is); (case c => k_is); (case k => k_is)
      · refine' UP.df_mk KX G ?a ?l ?c ?k; (case a => k_is); (case l => k_is); (case c => k_is); (case k => k_is)
      · refine' UP.df_mk KX G ?a ?l ?c ?k; (case a => k_is); (case l => k_is); (case c => k_is); (case k => k_is)
      · refine' UP.df_mk KX G ?a ?l ?c ?k; (case a => k_is); (case l => k_is); (case c => k_is); (case k => k_is)
      · refine' UP.df_mk KX G ?a ?l ?c ?k; (case a => k_is); (case l => k_is); (case c => k_is); (case k => k_is)
      · refine' UP.df_mk KX G ?a ?l ?c ?k; (case a => k_is); (case l => k_is); (case c => k_is); (case k => k_is)
      · refine' UP.df_mk KX G ?a ?l ?c ?k; (case a => k_is); (case l => k_is); (case c => k_is); (case k => k_is)
      · refine' UP.act_mk KX G ?a ?l ?kl ?m1 ?m2; (case a => k_is); (case l => k_is); (case kl => exact ⟨⟨_, _, rfl, rfl⟩, ⟨_, _, rfl, rfl⟩, True.intro⟩); (case m1 => k_is); (case m2 => k_is)
