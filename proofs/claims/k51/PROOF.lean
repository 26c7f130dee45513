import PyProof.Rows.All
import Wide.All
import OpenK.AllK
import Wide.FinOn
import HandS.ForMost
import HandS.Wide
import HandS.IsInst
import HandS.Defaults
import HandS.Codes
import HandS.Style
import PyProof.ReprRoads
import PyProof.ReprLen
import HandS.Zip
import HandS.NoneIn
import HandS.TupAny
import HandS.Small
import HandS.RaiseMore
import PyProof.CallFns
import HandS.More
import HandS.WordsExc
import HandS.ExcCtx
import HandS.ForExc
import HandS.ExcOwn
import HandS.Hot
import HandS.HotCalls
import HandS.Comp
import PyProof.Seq
import PyProof.Rows.TupIter
import HandS.ExcIs
import KE.KIsAll
import KE.KExcIs
import PySem.Challenge.RW_unlikepairs_k51_station_errors
set_option Elab.async false
set_option linter.all false
set_option maxRecDepth 100000
set_option maxHeartbeats 4000000
namespace UP
open PySem PySem.Spec PyProof.Rows L2

/-! ### a def that keeps a promise, by its name -/
section
variable (P : Program) (w : World) (K : PySem.W.Frag) (mg : Str → Option Value) (base : Heap)
def Has (k : Nat) (x : Str) (ps : List Str) (sp : Sp) : Prop :=
  ∃ f fd, mg x = some (.ref f) ∧ PySem.W.keepIn K (.ref f) = true ∧ Binds K fd ps [] ∧ FnOk P w K mg base CX0 k f fd ps sp
def Df (x : Str) (st : Stmt) : Prop := ∃ f fd, mg x = some (.ref f) ∧ Fun K x x st f fd
end
theorem Df.of {K : PySem.W.Frag} {mg : Str → Option Value} {x : Str} {st : Stmt} {f : Addr} {fd : FuncData} (g : mg x = some (.ref f)) (F : Fun K x x st f fd) : Df K mg x st := ⟨f, fd, g, F⟩
section
variable {P : Program} {w : World} {K : PySem.W.Frag} {mg : Str → Option Value} {base : Heap}
theorem has_of {x : Str} {st : Stmt} {ps N : List Str} {k : Nat} {sp : Sp} (D : Df K mg x st) (S : FnScope N ps (defScope st))
    (hb : ∀ (kV doc pm : Value) (an : Option Addr) (cdv ct : Value) (us : List Value), us.length = ps.length → bindArgs (PySem.W.fnOf x x (defArgs st) (defBody st) (defScope st) .none kV doc pm an cdv ct) ⟨us, []⟩ = pure (ps.zip us))
    (len : ∀ vs H Q E, sp vs H Q E → vs.length = ps.length)
    (body : ∀ (f : Addr) (cdv : Value) (A : Around) (outer : List Env) (s : Shared) (H : Hp) (vs : List V) (Q : VK) (E : XK), Room k (A.deeper (envOfC x (defScope st) s.heap.objs.size f cdv)) → sp vs H Q E →
      ∃ t, PSs (cxOf CX0 P w K mg base N x (defScope st) f cdv A outer s H E).nox (defBody st) t ∧ t { nx := fun _ H' => Q .non H', rt := Q } (start N vs) H) :
    Has P w K mg base (k + 1) x ps sp := by
  obtain ⟨f, fd, g, F⟩ := D
  exact ⟨f, fd, g, F.kp, F.binds hb, F.ok S len fun cdv A outer s H vs Q E hr h => body f cdv A outer s H vs Q E hr h⟩
theorem Has.weak {x : Str} {ps : List Str} {k : Nat} {sp sp' : Sp} (h : Has P w K mg base k x ps sp) (e : sp = sp') : Has P w K mg base k x ps sp' := e ▸ h
end
section
variable {X : Cx}
theorem pe_callH {k : Nat} {x : Str} {ps : List Str} {sp : Sp} {p pos : Pos} {e : Expr} {es : List Expr} {t : TA} (G : Has X.prog X.w X.K X.mg X.base k x ps sp) (hr : Room k X.A) (hg : Gl X x) (ha : PA X (e :: es) t)
    (hdb : (x == ("__debug__" : Str)) = false := by decide) (he : starEach (e :: es) X.env = (false, eval e X.env) :: starEach es X.env := by rfl) (hpl : (backTo pos (starEach es X.env)).any (·.1) = false := by rfl) :
    PE X (.Call (.Name x p) (e :: es) [] pos) (tCall sp [] E0 t) := by
  obtain ⟨f, fd, g, kp, b, F⟩ := G
  exact pe_call F hr hg g kp b .nil pass0 ha hdb he hpl
theorem pe_glI {x : Str} {i : Int} {pos : Pos} (h : ∃ t, X.mg x = some (.int i t)) (hg : Gl X x) (hd : (x == ("__debug__" : Str)) = false := by decide) : PE X (.Name x pos) (tC (.int i)) := by
  obtain ⟨t, h⟩ := h
  exact pe_glob hg h ⟨t, rfl⟩ hd
end

/-! ### heaps -/
theorem same_upd {H : Hp} {p : Addr} {o : HO} (h : H p = none) : Same H (upd H p o) := fun b x e => by
  rw [upd_ne (ne_of_none e h)]
  exact e
/-- all but the object at sp is as it was -/
def But (sp : Addr) (H H' : Hp) : Prop := ∀ b o, b ≠ sp → H b = some o → H' b = some o
theorem Same.but {sp : Addr} {H H' : Hp} (h : Same H H') : But sp H H' := fun b o _ e => h b o e
theorem But.trans {sp : Addr} {H H1 H2 : Hp} (a : But sp H H1) (b : But sp H1 H2) : But sp H H2 := fun c o n e => b c o n (a c o n e)
theorem But.refl {sp : Addr} {H : Hp} : But sp H H := fun _ _ _ e => e
theorem but_upd {sp : Addr} {H : Hp} {o : HO} : But sp H (upd H sp o) := fun b x n e => by
  rw [upd_ne n]
  exact e
theorem small {n : Nat} (h : n ≤ 1000000) : n < sizeLine := Nat.lt_of_le_of_lt h (by decide)
theorem smallE {n : Nat} (h : n ≤ 1000000) : n ≤ sizeLine := Nat.le_of_lt (small h)

/-! ### runs and states -/
abbrev Run := Str × Int
def RunV (H : Hp) (v : V) (r : Run) : Prop := ∃ t, v = .ref t ∧ H t = some (.tup [.str r.1, .int r.2])
def Runs (H : Hp) (a : Addr) (rs : List Run) : Prop := ∃ xs, H a = some (.lst xs) ∧ Paired (RunV H) xs rs
def StV (H : Hp) (v : V) : Option Run → Prop
  | none => v = .non
  | some r => RunV H v r
theorem RunV.same {H H' : Hp} {v : V} {r : Run} (s : Same H H') (h : RunV H v r) : RunV H' v r := by
  obtain ⟨t, e, h⟩ := h
  exact ⟨t, e, s _ _ h⟩
theorem Paired.len {α β : Type} {F : α → β → Prop} : ∀ {l₁ : List α} {l₂ : List β}, Paired F l₁ l₂ → l₁.length = l₂.length
  | _, _, .nil => rfl
  | _, _, .cons _ t => congrArg Nat.succ (Paired.len t)
theorem Paired.at {α β : Type} {F : α → β → Prop} : ∀ {l₁ : List α} {l₂ : List β} {i : Nat} {x : α}, Paired F l₁ l₂ → l₁[i]? = some x → ∃ y, l₂[i]? = some y ∧ F x y
  | _, _, _, _, .nil, h => by simp at h
  | _, _, 0, _, .cons h _, e => by
    simp only [List.getElem?_cons_zero, Option.some.injEq] at e
    subst e
    exact ⟨_, by simp, h⟩
  | _, _, i + 1, _, .cons _ t, e => by
    simp only [List.getElem?_cons_succ] at e ⊢
    exact Paired.at t e
theorem Paired.at' {α β : Type} {F : α → β → Prop} : ∀ {l₁ : List α} {l₂ : List β} {i : Nat} {y : β}, Paired F l₁ l₂ → l₂[i]? = some y → ∃ x, l₁[i]? = some x ∧ F x y
  | _, _, _, _, .nil, h => by simp at h
  | _, _, 0, _, .cons h _, e => by
    simp only [List.getElem?_cons_zero, Option.some.injEq] at e
    subst e
    exact ⟨_, by simp, h⟩
  | _, _, i + 1, _, .cons _ t, e => by
    simp only [List.getElem?_cons_succ] at e ⊢
    exact Paired.at' t e
theorem Paired.imp {α β : Type} {F G : α → β → Prop} (f : ∀ a b, F a b → G a b) : ∀ {l₁ : List α} {l₂ : List β}, Paired F l₁ l₂ → Paired G l₁ l₂
  | _, _, .nil => .nil
  | _, _, .cons h t => .cons (f _ _ h) (Paired.imp f t)
theorem Paired.app {α β : Type} {F : α → β → Prop} : ∀ {l₁ m₁ : List α} {l₂ m₂ : List β}, Paired F l₁ l₂ → Paired F m₁ m₂ → Paired F (l₁ ++ m₁) (l₂ ++ m₂)
  | _, _, _, _, .nil, h => h
  | _, _, _, _, .cons h t, k => .cons h (Paired.app t k)
theorem Paired.dropp {α β : Type} {F : α → β → Prop} : ∀ {l₁ : List α} {l₂ : List β} (n : Nat), Paired F l₁ l₂ → Paired F (l₁.drop n) (l₂.drop n)
  | _, _, 0, h => h
  | _, _, n + 1, .nil => .nil
  | _, _, n + 1, .cons _ t => by
    simp only [List.drop_succ_cons]
    exact Paired.dropp n t
theorem Paired.takep {α β : Type} {F : α → β → Prop} : ∀ {l₁ : List α} {l₂ : List β} (n : Nat), Paired F l₁ l₂ → Paired F (l₁.take n) (l₂.take n)
  | _, _, 0, h => by simp only [List.take_zero]; exact .nil
  | _, _, n + 1, .nil => .nil
  | _, _, n + 1, .cons h t => by
    simp only [List.take_succ_cons]
    exact .cons h (Paired.takep n t)
theorem Runs.same {H H' : Hp} {a : Addr} {rs : List Run} (s : Same H H') (h : Runs H a rs) : Runs H' a rs := by
  obtain ⟨xs, e, p⟩ := h
  exact ⟨xs, s _ _ e, Paired.imp (fun _ _ => RunV.same s) p⟩
theorem StV.same {H H' : Hp} {v : V} {st : Option Run} (s : Same H H') (h : StV H v st) : StV H' v st := by
  cases st with
  | none => exact h
  | some r => exact RunV.same s h
/-- the spring: a list of three ints -/
def Spr (H : Hp) (sp : Addr) : Prop := ∃ d s c : Int, H sp = some (.lst [.int d, .int s, .int c]) ∧ 0 ≤ d ∧ d.natAbs < 2 ^ 20000 ∧ 0 ≤ s ∧ s < 2305843009213693951
theorem RunV.but {H H' : Hp} {sp : Addr} {v : V} {r : Run} (z : Spr H sp) (s : But sp H H') (h : RunV H v r) : RunV H' v r := by
  obtain ⟨t, e, h⟩ := h
  obtain ⟨_, _, _, hs, _⟩ := z
  exact ⟨t, e, s _ _ (ne_of h hs (by intro q; cases q)) h⟩
theorem Runs.ne {H : Hp} {sp a : Addr} {rs : List Run} (z : Spr H sp) (h : Runs H a rs) : a ≠ sp := by
  obtain ⟨xs, e, p⟩ := h
  obtain ⟨d, s, c, hs, _⟩ := z
  refine ne_of e hs fun q => ?_
  have q := HO.lst.inj q
  subst q
  cases p with
  | cons h _ =>
    obtain ⟨t, e, _⟩ := h
    cases e
theorem Runs.but {H H' : Hp} {sp a : Addr} {rs : List Run} (z : Spr H sp) (s : But sp H H') (h : Runs H a rs) : Runs H' a rs := by
  have n := Runs.ne z h
  obtain ⟨xs, e, p⟩ := h
  exact ⟨xs, s _ _ n e, Paired.imp (fun _ _ => RunV.but z s) p⟩
theorem StV.but {H H' : Hp} {sp : Addr} {v : V} {st : Option Run} (z : Spr H sp) (s : But sp H H') (h : StV H v st) : StV H' v st := by
  cases st with
  | none => exact h
  | some r => exact RunV.but z s h
theorem Spr.same {H H' : Hp} {sp : Addr} (z : Spr H sp) (s : Same H H') : Spr H' sp := by
  obtain ⟨d, e, c, hs, r⟩ := z
  exact ⟨d, e, c, s _ _ hs, r⟩
def KindOk (s : Str) : Prop := 1 ≤ s.length ∧ s.length ≤ 8 ∧ ∀ c ∈ s.cps.toList, 97 ≤ c ∧ c ≤ 122
def RunOk (r : Run) : Prop := KindOk r.1 ∧ 1 ≤ r.2 ∧ r.2 ≤ 1000000000000000000000000000000
def Alt (rs : List Run) : Prop := ∀ (i : Nat) (x y : Run), rs[i]? = some x → rs[i + 1]? = some y → x.1 ≠ y.1
def SeqOk (rs : List Run) : Prop := rs.length ≤ 400 ∧ (∀ r ∈ rs, RunOk r) ∧ Alt rs
end UP

set_option Elab.async false
set_option linter.all false
set_option maxRecDepth 100000
set_option maxHeartbeats 4000000
namespace UP
open PySem PySem.Spec PyProof.Rows L2
/-! ### repr of plain data, where no other repr is under way -/
def rRepr (K : PySem.W.Frag) : List V → Hp → VK → Prop := fun xs H Q => ∃ (a : Addr) (d : PyData), xs = [.ref a] ∧ Dp K H (.ref a) d ∧ d.showable = true ∧ SeqAt.shaped d = true ∧ d.shown.length ≤ sizeLine ∧ Q (.str d.shown) H
theorem call_reprD {X : Cx} (hg : X.A.guards = some []) (hu : X.A.units + 70 < cLine) : CallR X (.builtin "repr") (rRepr X.K) := by
  intro pins s σ H xs us Q I r h
  obtain ⟨a, d, rfl, dp, sh, sp, sz, q⟩ := h
  obtain ⟨u, rfl, ru⟩ := vals1 r
  cases (show u = Value.ref a from ru)
  obtain ⟨as, rd⟩ := Dp.reads I d (.ref a) (.ref a) dp rfl
  have dd := SeqAt.depth_of_shaped sp
  refine repr_of_reads' rd sh (PyData.noDict_hsm (PyData.hasDict_of_canLay d (SeqAt.canLay_of_shaped sp))) hg (by omega) (fun _ _ e => e) (fun h' u tk hk => ?_) sz
  exact ⟨.str d.shown, H, I.kept (t' := tk) hk, ⟨u, rfl⟩, q⟩
/-! ### the law's own call, around it nothing -/
structure FnC (P : Program) (w : World) (K : PySem.W.Frag) (mg : Str → Option Value) (base : Heap) (f : Addr) (fd : FuncData) (ps : List Str) (sp : Sp) : Prop where
  go : ∀ (out : List Env) (s : Shared) (H : Hp) (args : Args) (us : List Value) (vs : List V) (Q : VK) (E : XK), Env0 P w K mg base callerA out s H → BindsTo s fd args (ps.zip us) → Vals vs us → sp vs H Q E →
    codeAny (model P w) callerA (.call (.ref f) args) (CR CX0 out P w H s Q E) s
theorem callerA_room : Room 8 callerA := ⟨rfl, by decide, by decide⟩
section
variable {P : Program} {w : World} {K : PySem.W.Frag} {mg : Str → Option Value} {base : Heap}
theorem fnC_of {x : Str} {st : Stmt} {f : Addr} {fd : FuncData} {ps N : List Str} {sp : Sp} (F : Fun K x x st f fd) (S : FnScope N ps (defScope st)) (len : ∀ vs H Q E, sp vs H Q E → vs.length = ps.length)
    (body : ∀ (cdv : Value) (out : List Env) (s : Shared) (H : Hp) (vs : List V) (Q : VK) (E : XK), Room 7 (callerA.deeper (envOfC x (defScope st) s.heap.objs.size f cdv)) → sp vs H Q E →
      ∃ t, PSs (cxOf CX0 P w K mg base N x (defScope st) f cdv callerA out s H E).nox (defBody st) t ∧ t { nx := fun _ H' => Q .non H', rt := Q } (start N vs) H) : FnC P w K mg base f fd ps sp := by
  obtain ⟨oc, od, kV, doc, pm, an, cdv, ct, osl, rfl, lk, hcd⟩ := F.ex
  refine ⟨fun out s H args us vs Q E e0 hb rv hsp => ?_⟩
  have inS : K.In s.heap := e0.mod.kin.keeps fun b o z => (e0.bs b o z).1
  have noL : s.heap.NoLimit := e0.mod.nolimit.keeps fun b o z => (e0.bs b o z).1
  have kinds : ∀ y ∈ ps.zip us, (defScope st).names.lookup y.1 = some .local ∨ ((defScope st).names.lookup y.1 = some .cell ∧ ((cellsFrom (s.heap.objs.size + 1) (defScope st).names []).lookup y.1).isSome = true) := by
    intro y hy
    rcases S.par y.1 (List.of_mem_zip (a := y.1) (b := y.2) hy).1 with z | z
    · exact Or.inl z
    · exact Or.inr ⟨z, PySem.W.cellsFrom_some _ _ _ (Or.inl z)⟩
  refine codeAny_call_function callerA_room.depth (inS _ _ lk) rfl S.co S.gen rfl (PySem.W.codeRec_of inS hcd) (hb _ _ _ _ ?_)
  refine wpAny_newFunctionEnv_cells S.kind kinds fun env he s1 inC => ?_
  subst he
  refine ⟨noL.keeps inC.toInCall.keep, codeAny_func ?_⟩
  obtain ⟨t, ht0, hq⟩ := body cdv out s H vs Q E (callerA_room.deeper _) hsp
  have ht := PSs.nox ht0
  have I0 : Inv (cxOf CX0 P w K mg base N x (defScope st) f cdv callerA out s H E) [] (start N vs) H s1 := inv_start S rfl e0 (len _ _ _ _ hsp) rv inC
  refine wpAny_mono (ht.run [] s1 (start N vs) H _ I0 hq) (fun fl s2 h2 => ?_) fun _ _ z => z
  cases fl with
  | next =>
    obtain ⟨σ2, H2, J, q2⟩ := h2
    exact ⟨V.non, H2, J.os, J.bare, J.base, J.hok, rfl, q2⟩
  | ret u =>
    obtain ⟨v, σ2, H2, J, rv2, q2⟩ := h2
    exact ⟨v, H2, J.os, J.bare, J.base, J.hok, rv2, q2⟩
  | brk =>
    obtain ⟨_, _, _, z⟩ := h2
    exact z.elim
  | cont =>
    obtain ⟨_, _, _, z⟩ := h2
    exact z.elim
end
/-- the heap that holds the script alone, locked -/
def oneH (a : Addr) (o : Obj) (xs : List V) : Hp := fun b => if b = a then some (.frz o (.lst xs)) else none
theorem run_law {P : Program} {w : World} {K : PySem.W.Frag} {mg mb : Str → Option Value} {fa a : Addr} {fd : FuncData} {x : Str} {sp : Sp} {s : Shared} {vs : List Value} {ns : List Int}
    (kx : K.In s.heap) (gns : s.heap.Ns mainGlobals mg) (bns : s.heap.Ns builtinsNs mb) (bb : ∀ y : Str, y ≠ "__name__" → mb y = bootBuiltins y) (nl : s.heap.NoLimit) (gens : s.gens = #[])
    (ob : s.heap.get? a = some { cls := .type "list", data := .seq vs.toArray }) (hin : IntsAre vs ns) (len : ns.length ≤ sizeLine) (F : ∀ base : Heap, K.In base → base.Ns mainGlobals mg → FnC P w K mg base fa fd [x] sp)
    (bind : ∀ (s : Shared) (u : Value), BindsTo s fd ⟨[u], []⟩ [(x, u)]) (hsp : ∀ H : Hp, SqL K H a (ns.map V.int) → sp [.ref a] H (fun v _ => v = .bl true) fun _ _ _ => False) :
    codeAny (model P w) callerA (.call (.ref fa) ⟨[.ref a], []⟩) (fun r s' => r = .ok (.ret (.bool true)) ∧ OldK s.heap s'.heap ∧ s'.os = s.os ∧ AllBare s'.gens) s := by
  have rel := vals_ints hin
  have step : ∀ H : Hp, (H = (fun _ => none) ∨ (H = oneH a { cls := .type "list", data := .seq vs.toArray } (ns.map V.int) ∧ K.lookup a = none)) → SqL K H a (ns.map V.int) → HOk P w H s.heap →
      codeAny (model P w) callerA (.call (.ref fa) ⟨[.ref a], []⟩) (fun r s' => r = .ok (.ret (.bool true)) ∧ OldK s.heap s'.heap ∧ s'.os = s.os ∧ AllBare s'.gens) s := by
    intro H hH hS hok
    have only : ∀ b u, H b = some u → b = a ∧ u = .frz { cls := .type "list", data := .seq vs.toArray } (.lst (ns.map V.int)) ∧ K.lookup a = none := by
      intro b u e
      rcases hH with z | ⟨z, z2⟩
      · rw [z] at e
        cases e
      · rw [z] at e
        by_cases hb : b = a
        · have e := (if_pos hb).symm.trans e
          cases e
          exact ⟨hb, rfl, z2⟩
        · have e := (if_neg hb).symm.trans e
          cases e
    have free : ∀ {b : Addr} {o : Obj}, s.heap.get? b = some o → (b = a → False) → (hidT s.heap H).get? b = some o := by
      intro b o e n
      refine hidT_get e ?_
      cases q : H b with
      | none => rfl
      | some u => exact (n (only b u q).1).elim
    have nss : ∀ {b : Addr} {m : Str → Option Value}, s.heap.Ns b m → (hidT s.heap H).Ns b m := by
      intro b m ⟨o, es, ep, e, d, r⟩
      refine ⟨o, es, ep, free e fun z => ?_, d, r⟩
      subst z
      rw [ob] at e
      cases e
      cases d
    have kb : K.In (hidT s.heap H) := by
      intro b o e
      refine hidT_get (kx b o e) ?_
      cases q : H b with
      | none => rfl
      | some u =>
        obtain ⟨z1, _, z2⟩ := only b u q
        rw [z1, z2] at e
        cases e
    have md : Mod K mg (hidT s.heap H) := ⟨kb, nss gns, ⟨mb, nss bns, bb⟩, by obtain ⟨mc, h1, h2⟩ := nl; exact ⟨mc, nss h1, h2⟩⟩
    have env : Env0 P w K mg (hidT s.heap H) callerA [] s H := ⟨rfl, md, fun b o e => of_hidT e, Nat.le_of_eq (hidT_size _ _), trivial, (fun b hb => by cases hb), hok, .of_eq gens⟩
    refine codeAny_mono ((F _ kb (nss gns)).go [] s H ⟨[.ref a], []⟩ [.ref a] [.ref a] _ _ env (bind s (.ref a)) (.cons rfl .nil) (hsp H hS)) fun r s' h => ?_
    cases r with
    | error e => exact h.elim
    | ok fl =>
      cases fl with
      | next => exact h.elim
      | brk => exact h.elim
      | cont => exact h.elim
      | ret u =>
        obtain ⟨v, H', o1, o2, un, hok', rv, q⟩ := h
        have q : v = .bl true := q
        subst q
        cases (show u = Value.bool true from rv)
        refine ⟨rfl, OldK.of_keep fun b o e => ?_, o1, o2⟩
        cases q : H b with
        | none => exact un.keep b o e q (fun z => by cases z) (fun z => by cases z)
        | some u =>
          obtain ⟨_, z, _⟩ := only b u q
          subst z
          obtain ⟨e1, _⟩ := hok b _ q
          obtain ⟨e2, _⟩ := hok' b _ (un.frzs b _ _ q)
          rw [e] at e1
          cases e1
          exact e2
  cases hk : K.lookup a with
  | some o =>
    have e := kx a o hk
    rw [ob] at e
    cases e
    refine step (fun _ => none) (.inl rfl) (.inr ⟨_, vs.toArray, _, hk, rfl, rfl, rfl, ?_, by simpa using rel⟩) fun b u z => by cases z
    rw [List.size_toArray, hin.length]
    exact len
  | none =>
    have at_a : oneH a { cls := .type "list", data := .seq vs.toArray } (ns.map V.int) a = some (.frz { cls := .type "list", data := .seq vs.toArray } (.lst (ns.map V.int))) := if_pos rfl
    refine step _ (.inr ⟨rfl, hk⟩) (.inl (.inr ⟨_, at_a⟩)) fun b u z => ?_
    by_cases hb : b = a
    · subst hb
      rw [at_a] at z
      cases z
      exact ⟨ob, by rw [List.length_map]; exact len, vs, _, rel, ob⟩
    · have z := (if_neg hb).symm.trans z
      cases z
theorem walkC {l : PySem.W.OpenLaw} {n : Nat} {q : Program} {loose : List Str} {XP : (Str → Option Value) → Heap → Prop} {YP : World → Heap → Prop} {d : DefRec} {K : Params → PySem.W.Frag} {sp : World → Sp} {x : Str}
    (hn : l.most = some n) (n2 : n ≤ sizeLine) (df : d.params.defaults = []) (hY : ∀ (w : World) (h : Heap), YP w h → (K w.params).In h)
    (F : ∀ (w : World) (mg : Str → Option Value) (fa : Addr) (h : Heap), (K w.params).In h → h.Ns mainGlobals mg → mg d.name = some (.ref fa) →
      ∃ fd : FuncData, (∀ (s : Shared) (u : Value), BindsTo s fd ⟨[u], []⟩ [(x, u)]) ∧ ∀ base : Heap, (K w.params).In base → base.Ns mainGlobals mg → FnC l.prog w (K w.params) mg base fa fd [x] (sp w))
    (hsp : ∀ (w : World) (H : Hp) (a : Addr) (ns : List Int), ns.length ≤ n → SqL (K w.params) H a (ns.map V.int) → sp w [.ref a] H (fun v _ => v = .bl true) fun _ _ _ => False) :
    PySem.W.WalkO q loose XP YP l.row.toRowW d [] (fun f vs => PySem.call f vs) := by
  refine Att.attach_call hn df fun w s₀ s mg mb fa o pm cd doc a vs ns G Y ho hd hcd hmg hobj hints hlen hg => ?_
  have kx := hY w _ Y
  obtain ⟨fd, hb, hF⟩ := F w mg fa _ kx G.T.g hmg
  exact run_law kx G.T.g G.T.b G.T.builtins G.T.nolimit hg hobj hints (Nat.le_trans hlen n2) hF hb fun H hS => hsp w H a ns hlen hS
end UP

set_option Elab.async false
set_option linter.all false
set_option maxRecDepth 100000
set_option maxHeartbeats 4000000
namespace UP
open PySem PySem.Spec PyProof.Rows L2
/-! ### lists or tuples -/
def Sq2 (H : Hp) (a : Addr) (xs : List V) : Prop := H a = some (.lst xs) ∨ H a = some (.tup xs)
theorem Sq2.same {H H' : Hp} {a : Addr} {xs : List V} (s : Same H H') (h : Sq2 H a xs) : Sq2 H' a xs := h.elim (fun z => .inl (s _ _ z)) (fun z => .inr (s _ _ z))
/-- a walk over the items xs, from the heap H on -/
structure Wk (J : It) (H : Hp) (xs : List V) : Prop where
  go : ∀ i H', Same H H' → i < xs.length → J.go i H'
  stop : ∀ H', Same H H' → J.stop xs.length H'
  yld : ∀ i x H' H'', Same H H' → J.yld i H' x H'' → H'' = H' ∧ xs[i]? = some x
theorem wk_list {K : PySem.W.Frag} {H : Hp} {a : Addr} {xs : List V} (h : H a = some (.lst xs)) : Wk (Itl K a) H xs :=
  ⟨fun i H' s hi => ⟨xs, xs[i], .of (s _ _ h), List.getElem?_eq_getElem hi⟩, fun H' s => ⟨xs, .of (s _ _ h), Nat.le_refl _⟩, fun i x H' H'' s y => ⟨y.1, y.2 xs (.of (s _ _ h))⟩⟩
theorem wk_tup {K : PySem.W.Frag} {H : Hp} {a : Addr} {xs : List V} (h : H a = some (.tup xs)) : Wk (Itt K a) H xs :=
  ⟨fun i H' s hi => ⟨xs, xs[i], .of (s _ _ h), List.getElem?_eq_getElem hi⟩, fun H' s => ⟨xs, .of (s _ _ h), Nat.le_refl _⟩, fun i x H' H'' s y => ⟨y.1, y.2 xs (.of (s _ _ h))⟩⟩
def iSeqV (i : Nat) : TI := fun σ H R => ∃ a xs, σ[i]? = some (some (.ref a)) ∧ Sq2 H a xs ∧ ∀ J, Wk J H xs → R J H
section
variable {X : Cx}
theorem pi_seqV (i : Nat) {x : Str} {pos : Pos} {tg : Expr} (hN : X.N[i]? = some x := by rfl) (hv : Vis X.env.scope x := by first | exact Or.inl rfl | exact Or.inr (Or.inl rfl) | exact Or.inr (Or.inr rfl)) (hd : (x == ("__debug__" : Str)) = false := by decide)
    (hc : (x == ("__classdict__" : Str)) = false := by decide) : PI X tg (.Name x pos) (iSeqV i) := by
  refine ⟨fun pins s σ H R I hw => ?_⟩
  obtain ⟨a, xs, e, h, k⟩ := hw
  rcases h with h | h
  · exact (pi_list (pe_var hN hv hd hc)).run pins s σ H R I ⟨_, e, a, rfl, ⟨xs, .of h⟩, k _ (wk_list h)⟩
  · exact (pi_tup (pe_var hN hv hd hc)).run pins s σ H R I ⟨_, e, a, rfl, ⟨xs, .of h⟩, k _ (wk_tup h)⟩
def gAny (n : Nat) (t : TGs) : TG := fun v σ H Q => ∃ a xs, v = .ref a ∧ Sq2 H a xs ∧ xs.length = n ∧ t xs σ H Q
theorem pg_any {es : List Expr} {k n : Nat} {t : TGs} {pos : Pos} (hc : X.calm = true) (h : PGs X es t) (hn : (assignEach es X.env).length = n := by rfl) (hst : (assignEach es X.env).findIdx? (fun z => z.1) = none := by rfl) : PG X (.Tuple es k pos) (gAny n t) := by
  refine ⟨fun pins s σ H v u Q I r hw => ?_⟩
  obtain ⟨a, xs, e, hx, hl, hw⟩ := hw
  rcases hx with z | z
  · exact (pg_unl hc h hn hst).run pins s σ H v u Q I r ⟨a, xs, e, .of z, hl, hw⟩
  · exact (pg_tup hc h hn hst).run pins s σ H v u Q I r ⟨a, xs, e, .of z, hl, hw⟩
/-- zip(x, x[1:]) -/
structure WkZ (J : It) (H : Hp) (xs : List V) : Prop where
  go : ∀ i H', Same H H' → i + 1 < xs.length → J.go i H'
  stop : ∀ H', Same H H' → J.stop (xs.length - 1) H'
  yld : ∀ i x H' H'', Same H H' → J.yld i H' x H'' → ∃ T x1 x2, x = .ref T ∧ H' T = none ∧ H'' = upd H' T (.tup [x1, x2]) ∧ xs[i]? = some x1 ∧ (i + 1 < xs.length → xs[i + 1]? = some x2)
def iZip1 (i : Nat) : TI := fun σ H R => ∃ a xs, σ[i]? = some (some (.ref a)) ∧ Sq2 H a xs ∧ ∀ J H', Same H H' → WkZ J H' xs → R J H'
theorem cutt_one (xs : List V) : cutV xs (some 1) none = xs.drop 1 := by
  have e : HT.sIx xs.length 0 (some 1) = min 1 xs.length := HT.sIx_nat xs.length 0 1
  unfold cutV
  rw [e, HT.sIx_none]
  cases xs with
  | nil => rfl
  | cons x r =>
    have e1 : min 1 (x :: r).length = 1 := by simp only [List.length_cons]; omega
    rw [e1]
    simp
theorem pi_zip1 {i : Nat} {tg it : Expr} {tl th : TO} (h : PI X tg it (RZ.iZipA X.K (tCons (tVar i) (tCons (tSl (fun x lo hi H Q => rSlL X.K x lo hi H Q ∨ rSlA X.K x lo hi H Q) (tVar i) tl th) tNil))))
    (h1 : ∀ (σ : L2.St) (H : Hp) (Q : Option Int → Hp → Prop), Q (some 1) H → tl σ H Q) (h2 : ∀ (σ : L2.St) (H : Hp) (Q : Option Int → Hp → Prop), Q none H → th σ H Q) : PI X tg it (iZip1 i) := by
  refine ⟨fun pins s σ H R I hw => h.run pins s σ H R I ?_⟩
  obtain ⟨a, xs, e, hx, k⟩ := hw
  refine ⟨_, e, _, e, h1 σ H _ (h2 σ H _ ?_)⟩
  have gn : ∀ j : Nat, (xs.drop 1)[j]? = xs[j + 1]? := fun j => by rw [List.getElem?_drop, Nat.add_comm 1 j]
  rcases hx with hx | hx
  · refine .inl ⟨a, xs, rfl, .of hx, fun c nc => ?_⟩
    have sc : Same H (upd H c (.lst (cutV xs (some 1) none))) := fun b o z => by rw [upd_ne (ne_of_none z nc)]; exact z
    have hc : (upd H c (.lst (cutV xs (some 1) none))) c = some (.lst (xs.drop 1)) := by rw [upd_same, cutt_one]
    refine ⟨a, c, xs, xs.drop 1, rfl, .inl ⟨.of (sc _ _ hx), .of hc, k _ _ sc ⟨fun j H' sj hj => ?_, fun H' sj => ?_, fun j x H' H'' sj y => ?_⟩⟩⟩
    · exact ⟨xs, xs.drop 1, xs[j], xs[j + 1], .of (sj _ _ (sc _ _ hx)), .of (sj _ _ hc), List.getElem?_eq_getElem (by omega), by rw [gn]; exact List.getElem?_eq_getElem hj⟩
    · exact ⟨xs, xs.drop 1, .of (sj _ _ (sc _ _ hx)), .of (sj _ _ hc), .inr (by rw [List.length_drop]; exact Nat.le_refl _)⟩
    · obtain ⟨T, x1, x2, e1, e2, e3, f1, f2⟩ := y
      exact ⟨T, x1, x2, e1, e2, e3, f1 xs (.of (sj _ _ (sc _ _ hx))), fun _ => by rw [← gn]; exact f2 _ (.of (sj _ _ hc))⟩
  · refine .inr ⟨a, xs, rfl, .of hx, fun z => ?_, fun z c nc => ?_⟩
    · have lz : xs.length = 0 := by
        have z1 := z.1
        rw [show HT.sIx xs.length 0 (some 1) = min 1 xs.length from HT.sIx_nat xs.length 0 1] at z1
        omega
      refine ⟨a, a, xs, xs, rfl, .inr ⟨.of hx, .of hx, k _ _ (Same.refl _) ⟨fun j H' sj hj => by omega, fun H' sj => ⟨xs, xs, .of (sj _ _ hx), .of (sj _ _ hx), .inl (by omega)⟩, fun j x H' H'' sj y => ?_⟩⟩⟩
      obtain ⟨T, x1, x2, e1, e2, e3, f1, f2⟩ := y
      exact ⟨T, x1, x2, e1, e2, e3, f1 xs (.of (sj _ _ hx)), fun hj => by omega⟩
    · have sc : Same H (upd H c (.tup (cutV xs (some 1) none))) := fun b o z => by rw [upd_ne (ne_of_none z nc)]; exact z
      have hc : (upd H c (.tup (cutV xs (some 1) none))) c = some (.tup (xs.drop 1)) := by rw [upd_same, cutt_one]
      refine ⟨a, c, xs, xs.drop 1, rfl, .inr ⟨.of (sc _ _ hx), .of hc, k _ _ sc ⟨fun j H' sj hj => ?_, fun H' sj => ?_, fun j x H' H'' sj y => ?_⟩⟩⟩
      · exact ⟨xs, xs.drop 1, xs[j], xs[j + 1], .of (sj _ _ (sc _ _ hx)), .of (sj _ _ hc), List.getElem?_eq_getElem (by omega), by rw [gn]; exact List.getElem?_eq_getElem hj⟩
      · exact ⟨xs, xs.drop 1, .of (sj _ _ (sc _ _ hx)), .of (sj _ _ hc), .inr (by rw [List.length_drop]; exact Nat.le_refl _)⟩
      · obtain ⟨T, x1, x2, e1, e2, e3, f1, f2⟩ := y
        exact ⟨T, x1, x2, e1, e2, e3, f1 xs (.of (sj _ _ (sc _ _ hx))), fun _ => by rw [← gn]; exact f2 _ (.of (sj _ _ hc))⟩
end
/-! ### runs and states, dressed -/
def RunG (H : Hp) (v : V) (r : Run) : Prop := ∃ t, v = .ref t ∧ Sq2 H t [.str r.1, .int r.2]
def RunsG (H : Hp) (v : V) (rs : List Run) : Prop := ∃ a xs, v = .ref a ∧ Sq2 H a xs ∧ Paired (RunG H) xs rs
def StG (H : Hp) (v : V) : Option Run → Prop
  | none => v = .non
  | some r => RunG H v r
theorem RunG.same {H H' : Hp} {v : V} {r : Run} (s : Same H H') (h : RunG H v r) : RunG H' v r := by
  obtain ⟨t, e, h⟩ := h
  exact ⟨t, e, h.same s⟩
theorem RunsG.same {H H' : Hp} {v : V} {rs : List Run} (s : Same H H') (h : RunsG H v rs) : RunsG H' v rs := by
  obtain ⟨a, xs, e, hx, p⟩ := h
  exact ⟨a, xs, e, hx.same s, Paired.imp (fun _ _ => RunG.same s) p⟩
theorem StG.same {H H' : Hp} {v : V} {st : Option Run} (s : Same H H') (h : StG H v st) : StG H' v st := by
  cases st with
  | none => exact h
  | some r => exact RunG.same s h
theorem RunV.dress {H : Hp} {v : V} {r : Run} (h : RunV H v r) : RunG H v r := by
  obtain ⟨t, e, h⟩ := h
  exact ⟨t, e, .inr h⟩
theorem Runs.dress {H : Hp} {a : Addr} {rs : List Run} (h : Runs H a rs) : RunsG H (.ref a) rs := by
  obtain ⟨xs, hx, p⟩ := h
  exact ⟨a, xs, rfl, .inl hx, Paired.imp (fun _ _ => RunV.dress) p⟩
theorem StV.dress {H : Hp} {v : V} {st : Option Run} (h : StV H v st) : StG H v st := by
  cases st with
  | none => exact h
  | some r => exact RunV.dress h
theorem Sq2.but {H H' : Hp} {sp a : Addr} {xs : List V} (z : Spr H sp) (s : But sp H H') (h : Sq2 H a xs) (n : ∀ d e f, xs ≠ [.int d, .int e, .int f]) : Sq2 H' a xs := by
  obtain ⟨d, e, f, hs, _⟩ := z
  rcases h with h | h
  · exact .inl (s _ _ (ne_of h hs fun q => n d e f (HO.lst.inj q)) h)
  · exact .inr (s _ _ (ne_of h hs fun q => by cases q) h)
theorem RunG.but {H H' : Hp} {sp : Addr} {v : V} {r : Run} (z : Spr H sp) (s : But sp H H') (h : RunG H v r) : RunG H' v r := by
  obtain ⟨t, e, h⟩ := h
  exact ⟨t, e, h.but z s fun _ _ _ q => by cases q⟩
theorem RunsG.but {H H' : Hp} {sp : Addr} {v : V} {rs : List Run} (z : Spr H sp) (s : But sp H H') (h : RunsG H v rs) : RunsG H' v rs := by
  obtain ⟨a, xs, e, hx, p⟩ := h
  refine ⟨a, xs, e, hx.but z s fun d _ _ q => ?_, Paired.imp (fun _ _ => RunG.but z s) p⟩
  subst q
  cases p with
  | cons h _ =>
    obtain ⟨_, e, _⟩ := h
    cases e
theorem StG.but {H H' : Hp} {sp : Addr} {v : V} {st : Option Run} (z : Spr H sp) (s : But sp H H') (h : StG H v st) : StG H' v st := by
  cases st with
  | none => exact h
  | some r => exact RunG.but z s h
end UP

set_option Elab.async false
set_option linter.all false
set_option maxRecDepth 100000
set_option maxHeartbeats 4000000
namespace UP
open PySem PySem.Spec PyProof.Rows L2
def topS (i : Nat) : Stmt := PySem.Challenge.pw_unlikepairs_k51_station_errors.main.body.getD i (.Pass ⟨0, 0, 0, 0⟩)
structure Tx (mg : Str → Option Value) : Prop where
  n_isinstance : mg "isinstance" = none
  n_int : mg "int" = none
  n_bool : mg "bool" = none
  n_str : mg "str" = none
  n_list : mg "list" = none
  n_tuple : mg "tuple" = none
  n_len : mg "len" = none
  n_all : mg "all" = none
  n_zip : mg "zip" = none
  n_sum : mg "sum" = none
  n_min : mg "min" = none
  n_max : mg "max" = none
  n_abs : mg "abs" = none
  n_range : mg "range" = none
  n_repr : mg "repr" = none
  n_enumerate : mg "enumerate" = none
  n_any : mg "any" = none
  n_dict : mg "dict" = none
  n_sorted : mg "sorted" = none
  n_set : mg "set" = none
  n_reversed : mg "reversed" = none
  n_ValueError : mg "ValueError" = none
  c_MAX_LETTERS : ∃ t, mg "MAX_LETTERS" = some (.int 8 t)
  c_MAX_COUNT : ∃ t, mg "MAX_COUNT" = some (.int 1000000000000000000000000000000 t)
section
variable {P : Program} {w : World} {K : PySem.W.Frag} {mg : Str → Option Value} {base : Heap}
/-! is_whole: slots 0:value -/
abbrev s_is_whole : Stmt := topS 25
theorem sc_is_whole : FnScope ["value"] ["value"] (defScope s_is_whole) := ⟨rfl, rfl, rfl, by decide +kernel, rfl, by decide +kernel, by decide +kernel⟩
def sp_is_whole : Sp := fun vs H Q _ => ∃ n : Int, vs = [.int n] ∧ Q (.bl true) H
theorem ok_is_whole (D : Df K mg "is_whole" s_is_whole) (T : Tx mg) : Has P w K mg base 1 "is_whole" ["value"] sp_is_whole := by
  refine has_of D sc_is_whole (fun _ _ _ _ _ _ us hl => match us, hl with | [_], _ => rfl) (fun vs H Q E h => ?_) (fun f cdv A outer s H vs Q E hr h => ?_)
  · obtain ⟨n, rfl, _⟩ := h
    rfl
  · obtain ⟨n, rfl, q⟩ := h
    refine ⟨_, (pss_one (ps_ret (pe_and (pe_callB call_isi (by rfl) T.n_isinstance (by decide +kernel) (pa_cons (pv 0) (pa_cons (pe_bltn (v := .ty "int") (by rfl) T.n_int (by decide +kernel) rfl) pa_nil))) (pe_one (pe_not (pe_callB call_isi (by rfl) T.n_isinstance (by decide +kernel) (pa_cons (pv 0) (pa_cons (pe_bltn (v := .ty "bool") (by rfl) T.n_bool (by decide +kernel) rfl) pa_nil)))))))), ?_⟩
    exact ⟨_, rfl, _, _, _, _, true, rfl, .ty "int", .base (.int n), kit_ty (by decide +kernel), true, rfl, iteT ⟨_, rfl, _, _, _, _, false, rfl, .ty "bool", .base (.int n), kit_ty (by decide +kernel), false, rfl, q⟩⟩
/-! is_within: slots 0:value 1:low 2:high -/
abbrev s_is_within : Stmt := topS 26
theorem sc_is_within : FnScope ["value", "low", "high"] ["value", "low", "high"] (defScope s_is_within) := ⟨rfl, rfl, rfl, by decide +kernel, rfl, by decide +kernel, by decide +kernel⟩
def sp_is_within : Sp := fun vs H Q _ => ∃ n lo hi : Int, vs = [.int n, .int lo, .int hi] ∧ Q (.bl (decide (lo ≤ n ∧ n ≤ hi))) H
theorem ok_is_within (D : Df K mg "is_within" s_is_within) (G_is_whole : Has P w K mg base 1 "is_whole" ["value"] sp_is_whole) : Has P w K mg base 2 "is_within" ["value", "low", "high"] sp_is_within := by
  refine has_of D sc_is_within (fun _ _ _ _ _ _ us hl => match us, hl with | [_, _, _], _ => rfl) (fun vs H Q E h => ?_) (fun f cdv A outer s H vs Q E hr h => ?_)
  · obtain ⟨n, lo, hi, rfl, _⟩ := h
    rfl
  · obtain ⟨n, lo, hi, rfl, q⟩ := h
    refine ⟨_, (pss_one (ps_ret (pe_and (pe_callH G_is_whole (hr.mono (by omega)) (by rfl) (pa_cons (pv 0) pa_nil)) (pe_one (pe_chain op_le op_le (pv 1) (pv 0) (pv 2)))))), ?_⟩
    refine ⟨_, rfl, n, rfl, true, rfl, iteT ⟨_, rfl, _, rfl, _, _, rfl, rfl, _, rfl, ite2 (fun e => ?_) (fun e => ?_)⟩⟩
    · have e := of_decide_eq_true e
      refine ⟨_, rfl, _, _, rfl, rfl, ?_⟩
      show Q (.bl (decide (n ≤ hi))) H
      rw [show decide (n ≤ hi) = decide (lo ≤ n ∧ n ≤ hi) by simp [e]]
      exact q
    · have e : ¬ lo ≤ n := fun z => e (decide_eq_true z)
      show Q (.bl false) H
      rw [show false = decide (lo ≤ n ∧ n ≤ hi) by simp [e]]
      exact q
theorem kit_lst {K : PySem.W.Frag} : PySem.W.kitAny K (.type "list") [.type "list", .type "tuple"] = some true := kitAny_cons (b := true) (kit_ty (by decide +kernel)) (fun z => nomatch z) (fun _ => rfl)
theorem kit_tup {K : PySem.W.Frag} : PySem.W.kitAny K (.type "tuple") [.type "list", .type "tuple"] = some true := kitAny_cons (b := false) (kit_ty (by decide +kernel)) (fun _ => kitAny_cons (b := true) (kit_ty (by decide +kernel)) (fun z => nomatch z) (fun _ => rfl)) (fun z => nomatch z)
end
end UP

set_option Elab.async false
set_option linter.all false
set_option maxRecDepth 100000
set_option maxHeartbeats 4000000
namespace UP
open PySem PySem.Spec PyProof.Rows L2
theorem iteP {b : Bool} {A B : Prop} (h : b = true) (x : A) : if b = true then A else B := by
  rw [if_pos h]
  exact x
theorem iteN {b : Bool} {A B : Prop} (h : b = false) (x : B) : if b = true then A else B := by
  rw [if_neg (by rw [h]; decide)]
  exact x
theorem yesT {σ : L2.St} {H : Hp} {A B : Hp → Prop} (h : A H) : tYes σ H (fun b H3 => if b = true then A H3 else B H3) := by
  show (if true = true then A H else B H)
  exact iteT h
theorem lc_gen {J : It} {n : Nat} {g : TG} {tt : TT} {te : TE} {vs : List Nat} {σ : L2.St} {H1 : Hp} {D : Addr} {Qd : Hp → Prop} (Pv : Nat → Hp → Prop) (h0 : Pv 0 (upd H1 D (.lst [])))
    (hg : ∀ i H, i < n → Pv i H → J.go i H) (hst : ∀ H, Pv n H → J.stop n H)
    (hs : ∀ i x H H', i < n → Pv i H → J.yld i H x H' → g x (wipe σ vs) H' fun σ2 H2 => wipe σ2 vs = wipe σ vs ∧ tt σ2 H2 fun b H3 =>
      if b = true then te σ2 H3 fun y H4 => ∃ acc, H4 D = some (.lst acc) ∧ acc.length < sizeLine ∧ Pv (i + 1) (upd H4 D (.lst (acc ++ [y]))) else Pv (i + 1) H3) (hd : ∀ H, Pv n H → Qd H) :
    ∃ W : Nat → Nat → Hp → Prop, (∃ m, W 0 m (upd H1 D (.lst []))) ∧ ∀ i m H, W i m H →
      (J.stop i H ∧ Qd H) ∨ (J.go i H ∧ ∃ Nx : Hp → Prop, (∀ H', Nx H' → ∃ m', m' < m ∧ W (i + 1) m' H') ∧ ∀ x H', J.yld i H x H' → g x (wipe σ vs) H' fun σ2 H2 => wipe σ2 vs = wipe σ vs ∧ tt σ2 H2 fun b H3 =>
        if b = true then te σ2 H3 fun y H4 => ∃ acc, H4 D = some (.lst acc) ∧ acc.length < sizeLine ∧ Nx (upd H4 D (.lst (acc ++ [y]))) else Nx H3) := by
  refine ⟨fun i m H => m = n - i ∧ i ≤ n ∧ Pv i H, ⟨n, by simp, Nat.zero_le _, h0⟩, ?_⟩
  rintro i m H ⟨rfl, hi, p⟩
  by_cases hlt : i < n
  · exact .inr ⟨hg i H hlt p, Pv (i + 1), fun H' p' => ⟨n - (i + 1), by omega, rfl, hlt, p'⟩, fun x H' y => hs i x H H' hlt p y⟩
  · have e : i = n := by omega
    subst e
    exact .inl ⟨hst H p, hd H p⟩
section
variable {X : Cx} {K : PySem.W.Frag}
theorem ix_tupK (h : X.K = K) : IxR X (rIxT K) := h ▸ ix_tup
theorem ix_listK (h : X.K = K) : IxR X (rIxL K) := h ▸ ix_list
theorem pg_tupK {es : List Expr} {k : Nat} {t : TGs} {n : Nat} {pos : Pos} (h : X.K = K) (hc : X.calm = true) (hp : PGs X es t)
    (hn : (assignEach es X.env).length = n := by rfl) (hst : (assignEach es X.env).findIdx? (fun z => z.1) = none := by rfl) : PG X (.Tuple es k pos) (gTup K n t) := by
  subst h
  exact pg_tup hc hp hn hst
theorem call_len_seqK (h : X.K = K) : CallR X (.builtin "len") (fun xs H Q => ∃ p ys, xs = [.ref p] ∧ (SqL K H p ys ∨ SqT K H p ys) ∧ Q (.int ys.length) H) := by
  subst h
  exact call_len_seq
end
theorem ix_seqK {X : Cx} {K : PySem.W.Frag} (h : X.K = K) : IxR X (rIx K) := h ▸ ix_seq
/-! ### lists that grow -/
theorem same_grow {H H4 : Hp} {D : Addr} {o : HO} (n : H D = none) (s : Same H H4) : Same H (upd H4 D o) := fun b x e => by
  rw [upd_ne (ne_of_none e n)]
  exact s b x e
theorem RunV.grow {H : Hp} {D : Addr} {acc acc' : List V} {v : V} {r : Run} (hD : H D = some (.lst acc)) (h : RunV H v r) : RunV (upd H D (.lst acc')) v r := by
  obtain ⟨t, e, h⟩ := h
  refine ⟨t, e, ?_⟩
  rw [upd_ne (ne_of h hD (by intro q; cases q))]
  exact h
theorem prs_grow {H : Hp} {D : Addr} {acc acc' : List V} {xs : List V} {rs : List Run} (hD : H D = some (.lst acc)) (h : Paired (RunV H) xs rs) : Paired (RunV (upd H D (.lst acc'))) xs rs := Paired.imp (fun _ _ => RunV.grow hD) h
theorem prs_same {H H' : Hp} {xs : List V} {rs : List Run} (s : Same H H') (h : Paired (RunV H) xs rs) : Paired (RunV H') xs rs := Paired.imp (fun _ _ => RunV.same s) h
theorem take_snoc {α : Type} {l : List α} {i : Nat} {x : α} (h : l[i]? = some x) : l.take (i + 1) = l.take i ++ [x] := by
  rw [List.take_add_one, h]
  rfl
theorem lc_wk {J : It} {H0 H1 : Hp} {xs : List V} {g : TG} {tt : TT} {te : TE} {vs : List Nat} {σ : L2.St} {D : Addr} {Qd : Hp → Prop} (wk : Wk J H0 xs) (Pv : Nat → Hp → Prop) (hsm : ∀ i H, Pv i H → Same H0 H) (h0 : Pv 0 (upd H1 D (.lst [])))
    (hs : ∀ i x H, xs[i]? = some x → Pv i H → g x (wipe σ vs) H fun σ2 H2 => wipe σ2 vs = wipe σ vs ∧ tt σ2 H2 fun b H3 =>
      if b = true then te σ2 H3 fun y H4 => ∃ acc, H4 D = some (.lst acc) ∧ acc.length < sizeLine ∧ Pv (i + 1) (upd H4 D (.lst (acc ++ [y]))) else Pv (i + 1) H3) (hd : ∀ H, Pv xs.length H → Qd H) :
    ∃ W : Nat → Nat → Hp → Prop, (∃ m, W 0 m (upd H1 D (.lst []))) ∧ ∀ i m H, W i m H →
      (J.stop i H ∧ Qd H) ∨ (J.go i H ∧ ∃ Nx : Hp → Prop, (∀ H', Nx H' → ∃ m', m' < m ∧ W (i + 1) m' H') ∧ ∀ x H', J.yld i H x H' → g x (wipe σ vs) H' fun σ2 H2 => wipe σ2 vs = wipe σ vs ∧ tt σ2 H2 fun b H3 =>
        if b = true then te σ2 H3 fun y H4 => ∃ acc, H4 D = some (.lst acc) ∧ acc.length < sizeLine ∧ Nx (upd H4 D (.lst (acc ++ [y]))) else Nx H3) := by
  refine lc_gen Pv h0 (fun i H hi p => wk.go i H (hsm i H p) hi) (fun H p => wk.stop H (hsm _ H p)) (fun i x H H' hi p y => ?_) hd
  obtain ⟨e, ex⟩ := wk.yld i x H H' (hsm i H p) y
  subst e
  exact hs i x _ ex p
theorem for_wk {J : It} {H0 H : Hp} {xs : List V} {g : TG} {tb : TS} {D : Ends} {σ : L2.St} (wk : Wk J H0 xs) (Pv : Nat → L2.St → Hp → Prop) (hsm : ∀ i σ H, Pv i σ H → Same H0 H) (h0 : Pv 0 σ H)
    (hs : ∀ i x σ H, xs[i]? = some x → Pv i σ H → g x σ H fun σ2 H2 => tb { D with nx := Pv (i + 1), ct := Pv (i + 1), bk := D.nx } σ2 H2) (hd : ∀ σ H, Pv xs.length σ H → D.nx σ H) :
    ∃ W : Nat → Nat → L2.St → Hp → Prop, (∃ m, W 0 m σ H) ∧ ∀ i m σ H, W i m σ H →
      (J.stop i H ∧ D.nx σ H) ∨ (J.go i H ∧ ∃ N : L2.St → Hp → Prop, (∀ σ' H', N σ' H' → ∃ m', m' < m ∧ W (i + 1) m' σ' H') ∧ ∀ x H', J.yld i H x H' → g x σ H' fun σ2 H2 => tb { D with nx := N, ct := N, bk := D.nx } σ2 H2) := by
  refine ⟨fun i m σ H => m = xs.length - i ∧ i ≤ xs.length ∧ Pv i σ H, ⟨xs.length, by omega, Nat.zero_le _, h0⟩, ?_⟩
  rintro i m σ H ⟨rfl, hi, p⟩
  by_cases hlt : i < xs.length
  · refine Or.inr ⟨wk.go i H (hsm i σ H p) hlt, Pv (i + 1), fun σ' H' p' => ⟨xs.length - (i + 1), by omega, rfl, hlt, p'⟩, fun x H' y => ?_⟩
    obtain ⟨e, ex⟩ := wk.yld i x H H' (hsm i σ H p) y
    subst e
    exact hs i x σ _ ex p
  · have e : i = xs.length := by omega
    subst e
    exact Or.inl ⟨wk.stop H (hsm _ σ H p), hd σ H p⟩
section
variable {P : Program} {w : World} {K : PySem.W.Frag} {mg : Str → Option Value} {base : Heap}
theorem lex1 {c d : Nat} : (!decide (([c] : List Nat) < [d])) = decide (d ≤ c) := by
  have e : (([c] : List Nat) < [d]) ↔ c < d := by
    rw [List.cons_lt_cons_iff]
    simp
  by_cases h : c < d
  · rw [decide_eq_true (e.mpr h), decide_eq_false (by omega)]
    rfl
  · rw [decide_eq_false (fun z => h (e.mp z)), decide_eq_true (by omega)]
    rfl
/-! is_kind: slots 0:value 1:letter -/
abbrev s_is_kind : Stmt := topS 27
theorem sc_is_kind : FnScope ["value", "letter"] ["value"] (defScope s_is_kind) := ⟨rfl, rfl, rfl, by decide +kernel, rfl, by decide +kernel, by decide +kernel⟩
def sp_is_kind : Sp := fun vs H Q _ => ∃ z : Str, vs = [.str z] ∧ KindOk z ∧ ∀ H', Same H H' → Q (.bl true) H'
theorem ok_is_kind (D : Df K mg "is_kind" s_is_kind) (T : Tx mg) : Has P w K mg base 1 "is_kind" ["value"] sp_is_kind := by
  refine has_of D sc_is_kind (fun _ _ _ _ _ _ us hl => match us, hl with | [_], _ => rfl) (fun vs H Q E h => ?_) (fun f cdv A outer s H vs Q E hr h => ?_)
  · obtain ⟨n, rfl, _⟩ := h
    rfl
  · obtain ⟨z, rfl, ⟨k1, k2, k3⟩, q⟩ := h
    refine ⟨_, (pss_cons (ps_if (PW.pt (pw_or (pt_not (pt_val (pe_callB call_isi (by rfl) T.n_isinstance (by decide +kernel) (pa_cons (pv 0) (pa_cons (pe_bltn (v := .ty "str") (by rfl) T.n_str (by decide +kernel) rfl) pa_nil))))) (pw_or1 (pt_not (pt_chain op_le op_le pe_int (pe_callB call_len_str (by rfl) T.n_len (by decide +kernel) (pa_cons (pv 0) pa_nil)) (pe_glI T.c_MAX_LETTERS (by rfl))))))) (pss_one (ps_ret pe_bl)) pss_nil)
    (pss_one (ps_ret (pe_callB (cr_all rfl) (by rfl) T.n_all (by decide +kernel) (pa_cons (pe_lc (own := [("letter", 1)]) rfl sc_is_kind.nd (pi_str (pv 0)) (blkOk_by (N := ["value", "letter"]) (sc := defScope s_is_kind) (by decide +kernel)) (fun _ _ _ _ _ => (pg_name (i := 1) sc_is_kind.nd rfl (by first | exact Or.inl rfl | exact Or.inr rfl))) (fun _ _ _ _ _ => pts_nil) (fun _ _ _ _ _ => (pe_chain op_le_str op_le_str pe_str (pv 1) pe_str))) pa_nil))))), ?_⟩
    refine ⟨_, rfl, _, _, _, _, true, rfl, .ty "str", .base (.str z), kit_ty (by decide +kernel), true, rfl, iteF ?_⟩
    refine ⟨_, rfl, z, rfl, smallE (by omega), _, _, rfl, rfl, _, rfl, iteP (decide_eq_true (by omega)) ⟨_, _, rfl, rfl, _, rfl, iteN ?_ ?_⟩⟩
    · show (!decide ((z.length : Int) ≤ 8)) = false
      rw [decide_eq_true (by omega)]
      rfl
    refine ⟨_, rfl, z, rfl, fun L nL => lc_gen (n := z.cps.size) (fun i H' => Same H H' ∧ H' L = some (.lst ((List.replicate i true).map V.bl))) ⟨same_upd nL, upd_same⟩ (fun i H' hi _ => hi) (fun H' _ => Nat.le_refl _) (fun i x H1 H2 hi p y => ?_) (fun H' p => ?_)⟩
    · obtain ⟨rfl, c, ec, rfl⟩ := y
      obtain ⟨sm, hL⟩ := p
      have hc : 97 ≤ c ∧ c ≤ 122 := k3 c (by
        have := Array.mem_of_getElem? ec
        simpa using this)
      have ea : ("a" : Str).cps.toList = [97] := by decide +kernel
      have ez : ("z" : Str).cps.toList = [122] := by decide +kernel
      refine ⟨rfl, yesT ⟨_, rfl, _, _, rfl, rfl, _, rfl, iteP ?_ ⟨_, _, rfl, rfl, _, hL, ?_, ?_, ?_⟩⟩⟩
      · show (!decide (([c] : List Nat) < ("a" : Str).cps.toList)) = true
        rw [ea, lex1]
        exact decide_eq_true hc.1
      · simp only [List.length_map, List.length_replicate]
        exact small (by have : z.cps.size = z.length := rfl; omega)
      · intro b o e
        have nb : b ≠ L := ne_of_none e nL
        rw [upd_ne nb]
        exact sm b o e
      · rw [upd_same]
        have e1 : (!decide ((("z" : Str).cps.toList) < ([c] : List Nat))) = true := by
          rw [ez, lex1]
          exact decide_eq_true hc.2
        show some (HO.lst ((List.replicate i true).map V.bl ++ [V.bl (!decide ((("z" : Str).cps.toList) < ([c] : List Nat)))])) = _
        rw [e1, List.replicate_succ', List.map_append]
        rfl
    · refine ⟨L, _, rfl, .of p.2, ?_⟩
      have e : ((List.replicate z.cps.size true).all id) = true := by simp
      rw [e]
      exact q H' p.1
def StOk (st : Option Run) : Prop := ∀ r, st = some r → KindOk r.1 ∧ 1 ≤ r.2
theorem at0 {α : Type} {x y : α} : atI [x, y] 0 = some x := rfl
theorem at1 {α : Type} {x y : α} : atI [x, y] 1 = some y := rfl
theorem ix0 {K : PySem.W.Frag} {H : Hp} {t : Addr} {x y : V} {Q : VK} (h : Sq2 H t [x, y]) (q : Q x H) : rIx K (.ref t) (.int 0) H Q := h.elim (fun z => .inl ⟨t, _, 0, _, rfl, rfl, .of z, at0, q⟩) (fun z => .inr (.inl ⟨t, _, 0, _, rfl, rfl, .of z, at0, q⟩))
theorem ix1 {K : PySem.W.Frag} {H : Hp} {t : Addr} {x y : V} {Q : VK} (h : Sq2 H t [x, y]) (q : Q y H) : rIx K (.ref t) (.int 1) H Q := h.elim (fun z => .inl ⟨t, _, 1, _, rfl, rfl, .of z, at1, q⟩) (fun z => .inr (.inl ⟨t, _, 1, _, rfl, rfl, .of z, at1, q⟩))
theorem all_rep (n : Nat) : ((List.replicate n true).all id) = true := by simp
end
end UP

set_option Elab.async false
set_option linter.all false
set_option maxRecDepth 100000
set_option maxHeartbeats 4000000
namespace UP
open PySem PySem.Spec PyProof.Rows L2
section
variable {P : Program} {w : World} {K : PySem.W.Frag} {mg : Str → Option Value} {base : Heap}
def lenR (rs : List Run) : Int := (rs.map (·.2)).sum
end
end UP

set_option Elab.async false
set_option linter.all false
set_option maxRecDepth 100000
set_option maxHeartbeats 4000000
namespace UP
open PySem PySem.Spec PyProof.Rows L2
/-! ### the mirror of cut -/
theorem lenR_nil : lenR [] = 0 := rfl
theorem lenR_cons (r : Run) (l : List Run) : lenR (r :: l) = r.2 + lenR l := by
  unfold lenR
  rw [List.map_cons, List.sum_cons]
theorem lenR_app (l m : List Run) : lenR (l ++ m) = lenR l + lenR m := by
  induction l with
  | nil => rw [List.nil_append, lenR_nil]; omega
  | cons r t ih => rw [List.cons_append, lenR_cons, lenR_cons, ih]; omega
theorem lenR_snoc (l : List Run) (r : Run) : lenR (l ++ [r]) = lenR l + r.2 := by
  rw [lenR_app, lenR_cons, lenR_nil]
  omega
def sizeR (b s e c : Int) : Int := (if b + c < e then b + c else e) - (if b > s then b else s)
def pieceR (b s e : Int) (r : Run) : List Run := if 0 < sizeR b s e r.2 then [(r.1, sizeR b s e r.2)] else []
def cutR (s e : Int) : Int → List Run → List Run
  | _, [] => []
  | b, r :: t => pieceR b s e r ++ cutR s e (b + r.2) t
theorem cutR_snoc (s e : Int) : ∀ (l : List Run) (b : Int) (r : Run), cutR s e b (l ++ [r]) = cutR s e b l ++ pieceR (b + lenR l) s e r
  | [], b, r => by
    show pieceR b s e r ++ [] = [] ++ pieceR (b + lenR []) s e r
    rw [lenR_nil, Int.add_zero, List.append_nil, List.nil_append]
  | x :: t, b, r => by
    show pieceR b s e x ++ cutR s e (b + x.2) (t ++ [r]) = (pieceR b s e x ++ cutR s e (b + x.2) t) ++ pieceR (b + lenR (x :: t)) s e r
    rw [cutR_snoc s e t, lenR_cons, List.append_assoc, Int.add_assoc]
theorem pieceR_len (b s e : Int) (r : Run) : (pieceR b s e r).length ≤ 1 := by
  unfold pieceR
  split <;> simp
theorem cutR_len (s e : Int) : ∀ (l : List Run) (b : Int), (cutR s e b l).length ≤ l.length
  | [], _ => Nat.le_refl _
  | r :: t, b => by
    show (pieceR b s e r ++ cutR s e (b + r.2) t).length ≤ (r :: t).length
    have h1 := pieceR_len b s e r
    have h2 := cutR_len s e t (b + r.2)
    rw [List.length_append, List.length_cons]
    omega
section
variable {P : Program} {w : World} {K : PySem.W.Frag} {mg : Str → Option Value} {base : Heap}
end
end UP

set_option Elab.async false
set_option linter.all false
set_option maxRecDepth 100000
set_option maxHeartbeats 4000000
namespace UP
open PySem PySem.Spec PyProof.Rows L2
/-! ### the mirror of the states -/
def numR : Option Run → Int
  | none => 0
  | some r => r.2
def leavR : Option Run → Str → Int → Int
  | none, _, _ => 0
  | some r, k, c => if r.1 = k then 0 else if c < r.2 then c else r.2
def stepR : Option Run → Str → Int → Option Run
  | some r, k, c => if r.1 = k then some (k, r.2 + c) else if 0 < r.2 - c then some (r.1, r.2 - c) else if r.2 - c = 0 then none else some (k, -(r.2 - c))
  | none, k, c => some (k, c)
def withR (k : Str) (n : Int) : Option Run := if n = 0 then none else some (k, n)
def stR (rs : List Run) (st : Option Run) : Option Run := rs.foldl (fun s r => stepR s r.1 r.2) st
theorem stR_snoc (l : List Run) (r : Run) (st : Option Run) : stR (l ++ [r]) st = stepR (stR l st) r.1 r.2 := by
  unfold stR
  rw [List.foldl_append]
  rfl
section
variable {P : Program} {w : World} {K : PySem.W.Frag} {mg : Str → Option Value} {base : Heap}
/-! waiting_number: slots 0:state -/
abbrev s_waiting_number : Stmt := topS 30
theorem sc_waiting_number : FnScope ["state"] ["state"] (defScope s_waiting_number) := ⟨rfl, rfl, rfl, by decide +kernel, rfl, by decide +kernel, by decide +kernel⟩
def sp_waiting_number : Sp := fun vs H Q _ => ∃ (v : V) (st : Option Run), vs = [v] ∧ StV H v st ∧ Q (.int (numR st)) H
theorem ok_waiting_number (D : Df K mg "waiting_number" s_waiting_number) : Has P w K mg base 1 "waiting_number" ["state"] sp_waiting_number := by
  refine has_of D sc_waiting_number (fun _ _ _ _ _ _ us hl => match us, hl with | [_], _ => rfl) (fun vs H Q E h => ?_) (fun f cdv A outer s₀ H vs Q E hr h => ?_)
  · obtain ⟨a, rs, rfl, _⟩ := h
    rfl
  · obtain ⟨v, st, rfl, hv, q⟩ := h
    refine ⟨_, (pss_one (ps_ret (pe_ifExp (pt_cmpR op_isN (pv 0) pe_non (nomark _)) pe_int (pe_ix ix_tup (pv 0) pe_int (fun _ _ => rfl))))), ?_⟩
    cases st with
    | none =>
      cases hv
      exact ⟨_, rfl, rfl, _, rfl, iteP rfl q⟩
    | some r =>
      obtain ⟨t, rfl, ht⟩ := hv
      exact ⟨_, rfl, rfl, _, rfl, iteN rfl ⟨_, rfl, t, _, 1, _, rfl, rfl, .of ht, at1, q⟩⟩
/-! leaving_number: slots 0:state 1:kind 2:count -/
abbrev s_leaving_number : Stmt := topS 32
theorem sc_leaving_number : FnScope ["state", "kind", "count"] ["state", "kind", "count"] (defScope s_leaving_number) := ⟨rfl, rfl, rfl, by decide +kernel, rfl, by decide +kernel, by decide +kernel⟩
def sp_leaving_number : Sp := fun vs H Q _ => ∃ (v : V) (st : Option Run) (k : Str) (c : Int), vs = [v, .str k, .int c] ∧ StV H v st ∧ Q (.int (leavR st k c)) H
theorem ok_leaving_number (D : Df K mg "leaving_number" s_leaving_number) (T : Tx mg) : Has P w K mg base 1 "leaving_number" ["state", "kind", "count"] sp_leaving_number := by
  refine has_of D sc_leaving_number (fun _ _ _ _ _ _ us hl => match us, hl with | [_, _, _], _ => rfl) (fun vs H Q E h => ?_) (fun f cdv A outer s₀ H vs Q E hr h => ?_)
  · obtain ⟨a, rs, _, _, rfl, _⟩ := h
    rfl
  · obtain ⟨v, st, k, c, rfl, hv, q⟩ := h
    refine ⟨_, (pss_cons (ps_if (PW.pt (pw_or (pt_cmpR op_isN (pv 0) pe_non (nomark _)) (pw_or1 (pt_cmpR op_eq (pe_ix ix_tup (pv 0) pe_int (fun _ _ => rfl)) (pv 1) (nomark _))))) (pss_one (ps_ret pe_int)) pss_nil)
    (pss_one (ps_ret (pe_callB (call_min2 rfl) (by rfl) T.n_min (by decide +kernel) (pa_cons (pe_ix ix_tup (pv 0) pe_int (fun _ _ => rfl)) (pa_cons (pv 2) pa_nil)))))), ?_⟩
    cases st with
    | none =>
      cases hv
      exact ⟨_, rfl, rfl, _, rfl, iteP rfl (iteT q)⟩
    | some r =>
      obtain ⟨t, rfl, ht⟩ := hv
      refine ⟨_, rfl, rfl, _, rfl, iteN rfl ⟨_, rfl, t, _, 0, _, rfl, rfl, .of ht, at0, _, rfl, rfl, _, rfl, ?_⟩⟩
      by_cases e : r.1 = k
      · refine iteP (by rw [e]; exact decide_eq_true rfl) ?_
        rw [show leavR (some r) k c = 0 from if_pos e] at q
        exact q
      · refine iteN (decide_eq_false fun z => e (V.str.inj z)) ⟨_, rfl, t, _, 1, _, rfl, rfl, .of ht, at1, _, rfl, _, _, rfl, ?_⟩
        rw [show leavR (some r) k c = if c < r.2 then c else r.2 from if_neg e] at q
        exact q
/-! state_with: slots 0:kind 1:number -/
abbrev s_state_with : Stmt := topS 31
theorem sc_state_with : FnScope ["kind", "number"] ["kind", "number"] (defScope s_state_with) := ⟨rfl, rfl, rfl, by decide +kernel, rfl, by decide +kernel, by decide +kernel⟩
def sp_state_with : Sp := fun vs H Q _ => ∃ (k : Str) (n : Int), vs = [.str k, .int n] ∧ ∀ H' v', Same H H' → StV H' v' (withR k n) → Q v' H'
theorem ok_state_with (D : Df K mg "state_with" s_state_with) : Has P w K mg base 1 "state_with" ["kind", "number"] sp_state_with := by
  refine has_of D sc_state_with (fun _ _ _ _ _ _ us hl => match us, hl with | [_, _], _ => rfl) (fun vs H Q E h => ?_) (fun f cdv A outer s₀ H vs Q E hr h => ?_)
  · obtain ⟨k, n, rfl, _⟩ := h
    rfl
  · obtain ⟨k, n, rfl, q⟩ := h
    refine ⟨_, (pss_one (ps_ret (pe_ifExp (pt_cmpR op_eq (pv 1) pe_int (nomark _)) pe_non (pe_tup (pa_cons (pv 0) (pa_cons (pv 1) pa_nil)))))), ?_⟩
    refine ⟨_, rfl, rfl, _, rfl, ?_⟩
    by_cases e : n = 0
    · rw [show withR k n = none from if_pos e] at q
      exact iteP (decide_eq_true (by rw [e])) (q _ _ (Same.refl _) rfl)
    · rw [show withR k n = some (k, n) from if_neg e] at q
      refine iteN (decide_eq_false fun z => e (V.int.inj z)) ?_
      exact ⟨_, rfl, _, rfl, (by show 2 ≤ sizeLine; decide), fun n' nn => q _ _ (same_upd nn) ⟨n', rfl, upd_same⟩⟩
/-! state_after_run: slots 0:state 1:kind 2:count 3:left_over -/
abbrev s_state_after_run : Stmt := topS 33
theorem sc_state_after_run : FnScope ["state", "kind", "count", "left_over"] ["state", "kind", "count"] (defScope s_state_after_run) := ⟨rfl, rfl, rfl, by decide +kernel, rfl, by decide +kernel, by decide +kernel⟩
def sp_state_after_run : Sp := fun vs H Q _ => ∃ (v : V) (st : Option Run) (k : Str) (c : Int), vs = [v, .str k, .int c] ∧ StV H v st ∧ 1 ≤ c ∧ ∀ H' v', Same H H' → StV H' v' (stepR st k c) → Q v' H'
theorem ok_state_after_run (D : Df K mg "state_after_run" s_state_after_run) (G_waiting_number : Has P w K mg base 1 "waiting_number" ["state"] sp_waiting_number) (G_state_with : Has P w K mg base 1 "state_with" ["kind", "number"] sp_state_with) : Has P w K mg base 2 "state_after_run" ["state", "kind", "count"] sp_state_after_run := by
  refine has_of D sc_state_after_run (fun _ _ _ _ _ _ us hl => match us, hl with | [_, _, _], _ => rfl) (fun vs H Q E h => ?_) (fun f cdv A outer s₀ H vs Q E hr h => ?_)
  · obtain ⟨a, rs, _, _, rfl, _⟩ := h
    rfl
  · obtain ⟨v, st, k, c, rfl, hv, hc, q⟩ := h
    refine ⟨_, (pss_cons (ps_if (PW.pt (pw_and (pt_cmpR op_notN (pv 0) pe_non (nomark _)) (pw_and1 (pt_cmpR op_eq (pe_ix ix_tup (pv 0) pe_int (fun _ _ => rfl)) (pv 1) (nomark _))))) (pss_one (ps_ret (pe_tup (pa_cons (pv 1) (pa_cons (pe_op op_add (pe_ix ix_tup (pv 0) pe_int (fun _ _ => rfl)) (pv 2)) pa_nil))))) pss_nil)
    (pss_cons (ps_set (i := 3) sc_state_after_run.nd rfl (by first | exact Or.inl rfl | exact Or.inr rfl) (pe_op op_sub (pe_callH G_waiting_number (hr.mono (by omega)) (by rfl) (pa_cons (pv 0) pa_nil)) (pv 2)))
    (pss_cons (ps_if (pt_cmpR op_gt (pv 3) pe_int (nomark _)) (pss_one (ps_ret (pe_tup (pa_cons (pe_ix ix_tup (pv 0) pe_int (fun _ _ => rfl)) (pa_cons (pv 3) pa_nil))))) pss_nil)
    (pss_one (ps_ret (pe_callH G_state_with (hr.mono (by omega)) (by rfl) (pa_cons (pv 1) (pa_cons (pe_un un_neg (pv 3)) pa_nil)))))))), ?_⟩
    cases st with
    | none =>
      cases hv
      refine ⟨_, rfl, rfl, _, rfl, iteN rfl (iteF ?_)⟩
      refine ⟨_, rfl, _, none, rfl, rfl, _, rfl, _, _, rfl, rfl, ?_⟩
      refine ⟨_, rfl, _, _, rfl, rfl, _, rfl, iteN (decide_eq_false (by show ¬ (0 : Int) < 0 - c; omega)) ?_⟩
      refine ⟨_, rfl, _, rfl, _, rfl, k, -(0 - c), rfl, fun H' v' s h => q H' v' s ?_⟩
      have e : withR k (-(0 - c)) = some (k, c) := by
        unfold withR
        rw [if_neg (by omega), show -(0 - c) = c by omega]
      rw [e] at h
      exact h
    | some r =>
      obtain ⟨t, rfl, ht⟩ := hv
      refine ⟨_, rfl, rfl, _, rfl, iteP rfl ⟨_, rfl, t, _, 0, _, rfl, rfl, .of ht, at0, _, rfl, rfl, _, rfl, ?_⟩⟩
      by_cases e : r.1 = k
      · have es : stepR (some r) k c = some (k, r.2 + c) := if_pos e
        rw [es] at q
        refine iteP (by rw [e]; exact decide_eq_true rfl) ?_
        exact ⟨_, rfl, _, rfl, t, _, 1, _, rfl, rfl, .of ht, at1, _, rfl, _, _, rfl, rfl, (by show 2 ≤ sizeLine; decide), fun n nn => q _ _ (same_upd nn) ⟨n, rfl, upd_same⟩⟩
      · refine iteN (decide_eq_false fun z => e (V.str.inj z)) ?_
        have es : stepR (some r) k c = if 0 < r.2 - c then some (r.1, r.2 - c) else if r.2 - c = 0 then none else some (k, -(r.2 - c)) := if_neg e
        rw [es] at q
        refine ⟨_, rfl, _, some r, rfl, ⟨t, rfl, ht⟩, _, rfl, _, _, rfl, rfl, ?_⟩
        refine ⟨_, rfl, _, _, rfl, rfl, _, rfl, ?_⟩
        by_cases e1 : 0 < r.2 - c
        · rw [if_pos e1] at q
          refine iteP (decide_eq_true e1) ?_
          exact ⟨_, rfl, t, _, 0, _, rfl, rfl, .of ht, at0, _, rfl, (by show 2 ≤ sizeLine; decide), fun n nn => q _ _ (same_upd nn) ⟨n, rfl, upd_same⟩⟩
        · rw [if_neg e1] at q
          refine iteN (decide_eq_false e1) ⟨_, rfl, _, rfl, _, rfl, k, -(r.2 - c), rfl, fun H' v' s h => q H' v' s ?_⟩
          have e3 : withR k (-(r.2 - c)) = if r.2 - c = 0 then none else some (k, -(r.2 - c)) := by
            unfold withR
            by_cases e2 : r.2 - c = 0
            · rw [if_pos e2, if_pos (by omega)]
            · rw [if_neg e2, if_neg (by omega)]
          rw [e3] at h
          exact h
end
end UP

set_option Elab.async false
set_option linter.all false
set_option maxRecDepth 100000
set_option maxHeartbeats 4000000
namespace UP
open PySem PySem.Spec PyProof.Rows L2
def DfD (K : PySem.W.Frag) (mg : Str → Option Value) (x : Str) (st : Stmt) (dvs : List V) : Prop := ∃ f fd, mg x = some (.ref f) ∧ FunD K x x (defArgs st) (defBody st) (defScope st) dvs [] f fd
/-- a def whose last parameter, kw, has the default None -/
def HasD (P : Program) (w : World) (K : PySem.W.Frag) (mg : Str → Option Value) (base : Heap) (k : Nat) (x : Str) (ps : List Str) (n : Nat) (kw : Str) (sp : Sp) : Prop :=
  ∃ f fd, mg x = some (.ref f) ∧ PySem.W.keepIn K (.ref f) = true ∧ Binds K fd ps [] ∧ (∃ ds, Vals [.non] ds ∧ Binds K fd ps ds) ∧ KBn K fd ps n [kw] (fun us ws => us ++ ws) (fun vs zs => vs ++ zs) ∧ FnOk P w K mg base CX0 k f fd ps sp
section
variable {P : Program} {w : World} {K : PySem.W.Frag} {mg : Str → Option Value} {base : Heap}
theorem HasD.has {k n : Nat} {x kw : Str} {ps : List Str} {sp : Sp} (h : HasD P w K mg base k x ps n kw sp) : Has P w K mg base k x ps sp := by
  obtain ⟨f, fd, g, kp, b, _, _, F⟩ := h
  exact ⟨f, fd, g, kp, b, F⟩
theorem has_ofD {x kw : Str} {st : Stmt} {ps N : List Str} {k n : Nat} {sp : Sp} (D : DfD K mg x st [.non]) (S : FnScope N ps (defScope st)) (hpn : ps.length = n + 1)
    (hb : ∀ (T : Addr) (kV doc pm : Value) (an : Option Addr) (cdv ct : Value) (us its : List Value), us.length = n + 1 → its.length = 1 →
      ∃ k, bindArgs (PySem.W.fnOf x x (defArgs st) (defBody st) (defScope st) (.ref T) kV doc pm an cdv ct) ⟨us, []⟩ = seqItems? (.ref T) >>= k ∧ k (some its.toArray) = pure (ps.zip us))
    (hb1 : ∀ (T : Addr) (kV doc pm : Value) (an : Option Addr) (cdv ct : Value) (us its : List Value), us.length = n → its.length = 1 →
      ∃ k, bindArgs (PySem.W.fnOf x x (defArgs st) (defBody st) (defScope st) (.ref T) kV doc pm an cdv ct) ⟨us, []⟩ = seqItems? (.ref T) >>= k ∧ k (some its.toArray) = pure (ps.zip (us ++ its)))
    (hb2 : ∀ (T : Addr) (kV doc pm : Value) (an : Option Addr) (cdv ct : Value) (us its : List Value) (v : Value), us.length = n → its.length = 1 →
      ∃ k, bindArgs (PySem.W.fnOf x x (defArgs st) (defBody st) (defScope st) (.ref T) kV doc pm an cdv ct) ⟨us, [(kw, v)]⟩ = seqItems? (.ref T) >>= k ∧ k (some its.toArray) = pure (ps.zip (us ++ [v])))
    (len : ∀ vs H Q E, sp vs H Q E → vs.length = ps.length)
    (body : ∀ (f : Addr) (cdv : Value) (A : Around) (outer : List Env) (s : Shared) (H : Hp) (vs : List V) (Q : VK) (E : XK), Room k (A.deeper (envOfC x (defScope st) s.heap.objs.size f cdv)) → sp vs H Q E →
      ∃ t, PSs (cxOf CX0 P w K mg base N x (defScope st) f cdv A outer s H E).nox (defBody st) t ∧ t { nx := fun _ H' => Q .non H', rt := Q } (start N vs) H) :
    HasD P w K mg base (k + 1) x ps n kw sp := by
  obtain ⟨f, fd, g, F⟩ := D
  have B0 : Binds K fd ps [] := by
    obtain ⟨ds, v, b⟩ := F.binds1 (n + 1) 1 (ps := ps) (by intro z; cases z) (by rw [hpn]; rfl) fun T kV doc pm an cdv ct us its h1 h2 => by
      obtain ⟨k, e1, e2⟩ := hb T kV doc pm an cdv ct us its h1 h2
      refine ⟨k, e1, ?_⟩
      have h3 : its.length ≤ 1 := Nat.le_of_eq h2
      rw [e2, List.drop_of_length_le h3, List.append_nil]
    cases v
    exact b
  have B1 : ∃ ds, Vals [V.non] ds ∧ Binds K fd ps ds := by
    obtain ⟨ds, v, b⟩ := F.binds1 n 0 (ps := ps) (by intro z; cases z) (by rw [hpn]; rfl) fun T kV doc pm an cdv ct us its h1 h2 => by
      obtain ⟨k, e1, e2⟩ := hb1 T kV doc pm an cdv ct us its h1 h2
      exact ⟨k, e1, by rw [e2, List.drop_zero]⟩
    exact ⟨ds, v, b⟩
  have B2 : KBn K fd ps n [kw] (fun us ws => us ++ ws) (fun vs zs => vs ++ zs) := by
    refine ⟨fun s us ws X l1 l2 => ?_, fun r1 r2 => r1.append r2⟩
    obtain ⟨oc, od, dV, kV, doc, pm, an, cdv, ct, osl, rfl, lk, hcd, hD, _⟩ := F.ex
    rcases hD with ⟨z, _⟩ | ⟨_, T, o, its, m, rfl, lT, oT, rT⟩
    · cases z
    · match ws, l2 with
      | [v], _ =>
        obtain ⟨k, e1, e2⟩ := hb2 T kV doc pm an cdv ct us its v l1 rT.length.symm
        refine BindsTo.of_looks fun M => ?_
        show PySem.W.Looks M s.heap (bindArgs _ ⟨us, [(kw, v)]⟩) _
        rw [e1]
        exact looks_items X lT oT (.of_pure e2)
  refine ⟨f, fd, g, F.kp, B0, B1, B2, F.ok S len fun cdv A outer s H vs Q E hr h => ?_⟩
  obtain ⟨t, p, q⟩ := body f cdv A outer s H vs Q E hr h
  exact ⟨t, p.nox, q⟩
end
section
variable {X : Cx}
/-- the default taken -/
theorem pe_callDH {k n : Nat} {x kw : Str} {ps : List Str} {sp : Sp} {p pos : Pos} {e : Expr} {es : List Expr} {t : TA} (G : HasD X.prog X.w X.K X.mg X.base k x ps n kw sp) (hr : Room k X.A) (hg : Gl X x) (ha : PA X (e :: es) t)
    (hdb : (x == ("__debug__" : Str)) = false := by decide) (he : starEach (e :: es) X.env = (false, eval e X.env) :: starEach es X.env := by rfl) (hpl : (backTo pos (starEach es X.env)).any (·.1) = false := by rfl) :
    PE X (.Call (.Name x p) (e :: es) [] pos) (tCall sp [.non] E0 t) := by
  obtain ⟨f, fd, g, kp, _, ⟨ds, v, b⟩, _, F⟩ := G
  exact pe_call F hr hg g kp b v pass0 ha hdb he hpl
/-- the last one by its name -/
theorem pe_callNH {k n : Nat} {x kw : Str} {ps : List Str} {sp : Sp} {p pos : Pos} {e : Expr} {es : List Expr} {kws : List Keyword} {t tk : TA} (G : HasD X.prog X.w X.K X.mg X.base k x ps n kw sp) (hr : Room k X.A) (hg : Gl X x) (ha : PA X (e :: es) t) (hk : PK X kws tk)
    (h1 : (backToKw pos (keywordEach kws X.env)).all (·.1.isSome) = true := by rfl) (h2 : (backToKw pos (keywordEach kws X.env)).filterMap (·.1) = [kw] := by rfl) (hdb : (x == ("__debug__" : Str)) = false := by decide)
    (he : starEach (e :: es) X.env = (false, eval e X.env) :: starEach es X.env := by rfl) (hpl : ((backTo pos (starEach (e :: es) X.env)).any (·.1) || (backToKw pos (keywordEach kws X.env)).any (·.1.isNone)) = false := by rfl) :
    PE X (.Call (.Name x p) (e :: es) kws pos) (tCallN n 1 sp (fun vs zs => vs ++ zs) E0 t tk) := by
  obtain ⟨f, fd, g, kp, _, _, b, F⟩ := G
  exact pe_callN F hr hg g kp b pass0 ha hk h1 h2 hdb he hpl
end
section
variable {P : Program} {w : World} {K : PySem.W.Frag} {mg : Str → Option Value} {base : Heap}
theorem SeqOk.pos {rs : List Run} (h : SeqOk rs) : ∀ r ∈ rs, 1 ≤ r.2 := fun r m => (h.2.1 r m).2.1
theorem pieceR_pos {b s e : Int} {r x : Run} (h : x ∈ pieceR b s e r) : 1 ≤ x.2 := by
  unfold pieceR at h
  split at h
  · rename_i z
    simp only [List.mem_singleton] at h
    subst h
    show 1 ≤ sizeR b s e r.2
    omega
  · cases h
theorem cutR_pos {s e : Int} : ∀ {l : List Run} {b : Int}, ∀ x ∈ cutR s e b l, 1 ≤ x.2
  | [], _, x, h => by cases h
  | r :: t, b, x, h => by
    rcases List.mem_append.mp (show x ∈ pieceR b s e r ++ cutR s e (b + r.2) t from h) with h | h
    · exact pieceR_pos h
    · exact cutR_pos x h
end
end UP

set_option Elab.async false
set_option linter.all false
set_option maxRecDepth 100000
set_option maxHeartbeats 4000000
namespace UP
open PySem PySem.Spec PyProof.Rows L2
section
variable {P : Program} {w : World} {K : PySem.W.Frag} {mg : Str → Option Value} {base : Heap}
end
end UP

set_option Elab.async false
set_option linter.all false
set_option maxRecDepth 100000
set_option maxHeartbeats 4000000
namespace UP
open PySem PySem.Spec PyProof.Rows L2
/-! ### data -/
def dRun (r : Run) : PyData := .tuple [.str r.1, .int r.2]
theorem dp_run {K : PySem.W.Frag} {H : Hp} {v : V} {r : Run} (h : RunV H v r) : Dp K H v (dRun r) := by
  obtain ⟨t, rfl, h⟩ := h
  exact .tup (.of h) (.cons (.str _) (.cons (.int _) .nil))
theorem dp_all {K : PySem.W.Frag} {H : Hp} : ∀ {xs : List V} {rs : List Run}, Paired (RunV H) xs rs → DpAll K H xs (rs.map dRun)
  | _, _, .nil => .nil
  | _, _, .cons h t => .cons (dp_run h) (dp_all t)
theorem KindOk.str {s : Str} (h : KindOk s) : PyData.strOk s = true := by
  unfold PyData.strOk
  rw [Array.all_eq_true']
  intro c hc
  have := h.2.2 c (by simpa using hc)
  exact decide_eq_true (by omega)
theorem can_run {r : Run} (h : KindOk r.1) : (dRun r).canLay0 = true := by
  simp [dRun, PyData.canLay0, PyData.canLayAll0, h.str]
theorem can_runs : ∀ {rs : List Run}, (∀ r ∈ rs, KindOk r.1) → PyData.canLayAll0 (rs.map dRun) = true
  | [], _ => by simp [PyData.canLayAll0]
  | r :: t, h => by
    rw [List.map_cons, PyData.canLayAll0, can_run (h r (List.mem_cons_self ..)), can_runs fun x hx => h x (List.mem_cons_of_mem _ hx)]
    rfl
theorem depth_run (r : Run) : (dRun r).depth ≤ 2 := by
  simp [dRun, PyData.depth, PyData.depthAll]
theorem depth_runs : ∀ (rs : List Run), PyData.depthAll (rs.map dRun) ≤ 2
  | [] => by simp [PyData.depthAll]
  | r :: t => by
    rw [List.map_cons, PyData.depthAll]
    exact Nat.max_le.mpr ⟨depth_run r, depth_runs t⟩
theorem shaped_runs {rs : List Run} (h : ∀ r ∈ rs, KindOk r.1) : SeqAt.shaped (.list (rs.map dRun)) = true := by
  unfold SeqAt.shaped
  rw [PyData.canLay0, can_runs h, PyData.depth]
  have := depth_runs rs
  exact decide_eq_true (by omega)
theorem shaped_run {r : Run} (h : KindOk r.1) : SeqAt.shaped (dRun r) = true := by
  unfold SeqAt.shaped
  rw [can_run h]
  have := depth_run r
  exact decide_eq_true (by omega)
theorem shaped_nil : SeqAt.shaped (.list []) = true := by decide
theorem eqv_nil (rs : List Run) : PyData.eqv (.list (rs.map dRun)) (.list []) = rs.isEmpty := by
  cases rs with
  | nil => simp [PyData.eqv, PyData.eqvAll]
  | cons r t => simp [PyData.eqv, PyData.eqvAll]
theorem sb {sp : Addr} {H H' : Hp} (h : Same H H') : But sp H H' := fun b o _ e => h b o e
theorem But.free {sp : Addr} {H H' : Hp} (b : But sp H H') (z : Spr H' sp) {p : Addr} (h : H' p = none) : H p = none := by
  by_cases e : p = sp
  · subst e
    obtain ⟨_, _, _, h1, _⟩ := z
    rw [h1] at h
    cases h
  · cases q : H p with
    | none => rfl
    | some o =>
      rw [b p o e q] at h
      cases h
theorem Spr.ne {sp p : Addr} {H : Hp} (z : Spr H sp) (h : H p = none) : p ≠ sp := by
  obtain ⟨_, _, _, h1, _⟩ := z
  exact fun e => by rw [e, h1] at h; cases h
instance (s : Str) : Decidable (KindOk s) := by
  unfold KindOk
  infer_instance
section
variable {P : Program} {w : World} {K : PySem.W.Frag} {mg : Str → Option Value} {base : Heap}
end
end UP

set_option Elab.async false
set_option linter.all false
set_option maxRecDepth 100000
set_option maxHeartbeats 4000000
namespace UP
open PySem PySem.Spec PyProof.Rows L2
theorem pe_bmK {X : Cx} {K : PySem.W.Frag} {e : Expr} {c : String} {r : V → List V → Hp → VK → Prop} {to : TE} {t : TA} (h : X.K = K) (p : PE X e (tBM X.K c r to t)) : PE X e (tBM K c r to t) := h ▸ p
theorem if_by {c : TT} {t u : TS} {D : Ends} {σ : L2.St} {H : Hp} (R : Bool → Hp → Prop) (h : ∀ Q' : Bool → Hp → Prop, (∀ b H', R b H' → Q' b H') → c σ H Q') (ht : ∀ H', R true H' → t D σ H') (hu : ∀ H', R false H' → u D σ H') : tIfS c t u D σ H := by
  refine h _ fun b H' r => ?_
  cases b with
  | true => exact iteT (ht H' r)
  | false => exact iteF (hu H' r)
theorem erase_map {α β : Type} (f : α → β) : ∀ (l : List α) (i : Nat), (l.map f).eraseIdx i = (l.eraseIdx i).map f
  | [], _ => rfl
  | x :: t, 0 => rfl
  | x :: t, i + 1 => by
    simp only [List.map_cons, List.eraseIdx_cons_succ]
    rw [erase_map f t i]
def eight : List Str := ["a", "b", "c", "ab", "zz", "abcdefgh", "aa", "z"]
theorem eight_ok : ∀ s ∈ eight, KindOk s := by decide +kernel
theorem alt_snoc {l : List Run} {x : Run} (h : Alt l) (k : ∀ y, l[l.length - 1]? = some y → y.1 ≠ x.1) : Alt (l ++ [x]) := by
  intro i a b ha hb
  by_cases h1 : i + 1 < l.length
  · rw [List.getElem?_append_left (by omega)] at ha
    rw [List.getElem?_append_left h1] at hb
    exact h i a b ha hb
  · by_cases h2 : i + 1 = l.length
    · rw [List.getElem?_append_left (by omega)] at ha
      rw [List.getElem?_append_right (by omega), h2, Nat.sub_self] at hb
      cases hb
      rw [show i = l.length - 1 by omega] at ha
      exact k a ha
    · rw [List.getElem?_append_right (by omega)] at hb
      rw [List.getElem?_eq_none (by simp; omega)] at hb
      cases hb
theorem pow62 {x : Int} (h0 : 0 ≤ x) (h1 : x ≤ 1000000) : -(2 ^ 62) ≤ x ∧ x < 2 ^ 62 := by omega
theorem wide8 {m : Int} (h0 : 0 ≤ m) (h1 : m ≤ 1000000000000000000000000000000000000000000000000000000000000) : m.natAbs < 2 ^ 8000 :=
  Nat.lt_of_lt_of_le (show m.natAbs < 2 ^ 256 by omega) (Nat.pow_le_pow_right (by decide) (by decide))
section
variable {P : Program} {w : World} {K : PySem.W.Frag} {mg : Str → Option Value} {base : Heap}
end
end UP

set_option Elab.async false
set_option linter.all false
set_option maxRecDepth 100000
set_option maxHeartbeats 4000000
namespace UP
open PySem PySem.Spec PyProof.Rows L2
def scR (t : Int) (rs : List Run) : List Run := rs.map fun r => (r.1, r.2 * t)
def toldR (ws : List Run) : Option Run := match ws with
  | [] => none
  | r :: _ => some (r.1, (ws.length : Int))
def repR (k : Str) (n : Int) : Option Run := if n = 0 then none else some (k, n)
theorem repR_zero (k : Str) : repR k 0 = none := if_pos rfl
theorem repR_pos {k : Str} {n : Int} (h : 0 < n) : repR k n = some (k, n) := if_neg (by omega)
def PosO (st : Option Run) : Prop := ∀ r, st = some r → 1 ≤ r.2
theorem stepR_pos {st : Option Run} {k : Str} {c : Int} (h : PosO st) (hc : 1 ≤ c) : PosO (stepR st k c) := by
  intro r e
  cases st with
  | none =>
    cases e
    exact hc
  | some x =>
    have hx := h x rfl
    have e : (if x.1 = k then some (k, x.2 + c) else if 0 < x.2 - c then some (x.1, x.2 - c) else if x.2 - c = 0 then none else some (k, -(x.2 - c))) = some r := e
    by_cases h1 : x.1 = k
    · rw [if_pos h1] at e
      cases e
      show 1 ≤ x.2 + c
      omega
    · rw [if_neg h1] at e
      by_cases h2 : 0 < x.2 - c
      · rw [if_pos h2] at e
        cases e
        show 1 ≤ x.2 - c
        omega
      · rw [if_neg h2] at e
        by_cases h3 : x.2 - c = 0
        · rw [if_pos h3] at e
          cases e
        · rw [if_neg h3] at e
          cases e
          show 1 ≤ -(x.2 - c)
          omega
theorem stR_cons (r : Run) (l : List Run) (st : Option Run) : stR (r :: l) st = stR l (stepR st r.1 r.2) := rfl
theorem stR_pos : ∀ {rs : List Run} {st : Option Run}, PosO st → (∀ r ∈ rs, 1 ≤ r.2) → PosO (stR rs st)
  | [], _, h, _ => h
  | r :: t, st, h, k => by
    rw [stR_cons]
    exact stR_pos (stepR_pos h (k r (List.mem_cons_self ..))) fun x hx => k x (List.mem_cons_of_mem _ hx)
theorem StOk.pos {st : Option Run} (h : StOk st) : PosO st := fun r e => (h r e).2
section
variable {P : Program} {w : World} {K : PySem.W.Frag} {mg : Str → Option Value} {base : Heap}
end
end UP

set_option Elab.async false
set_option linter.all false
set_option maxRecDepth 100000
set_option maxHeartbeats 4000000
namespace UP
open PySem PySem.Spec PyProof.Rows L2
/-! ### plain data, by depth -/
def Dsc (v : V) (d : PyData) : Prop := (v = .non ∧ d = .none) ∨ (∃ b, v = .bl b ∧ d = .bool b) ∨ (∃ i, v = .int i ∧ d = .int i) ∨ ∃ s, v = .str s ∧ d = .str s
def Dt (H : Hp) : Nat → V → PyData → Prop
  | 0, v, d => Dsc v d
  | n + 1, v, d => Dsc v d ∨ (∃ a xs ds, v = .ref a ∧ H a = some (.lst xs) ∧ d = .list ds ∧ Paired (Dt H n) xs ds ∧ ds.length ≤ 100000) ∨ ∃ a xs ds, v = .ref a ∧ H a = some (.tup xs) ∧ d = .tuple ds ∧ Paired (Dt H n) xs ds ∧ ds.length ≤ 100000
theorem Dt.same {H H' : Hp} (s : Same H H') : ∀ {n : Nat} {v : V} {d : PyData}, Dt H n v d → Dt H' n v d
  | 0, _, _, h => h
  | n + 1, v, d, h => by
    rcases h with h | ⟨a, xs, ds, e, h, e2, p, l⟩ | ⟨a, xs, ds, e, h, e2, p, l⟩
    · exact .inl h
    · exact .inr (.inl ⟨a, xs, ds, e, s _ _ h, e2, Paired.imp (fun _ _ z => Dt.same s z) p, l⟩)
    · exact .inr (.inr ⟨a, xs, ds, e, s _ _ h, e2, Paired.imp (fun _ _ z => Dt.same s z) p, l⟩)
theorem dsc_ref {a : Addr} {d : PyData} (h : Dsc (.ref a) d) : False := by
  rcases h with ⟨h, _⟩ | ⟨_, h, _⟩ | ⟨_, h, _⟩ | ⟨_, h, _⟩ <;> cases h
theorem dsc_lst {v : V} {ds : List PyData} (h : Dsc v (.list ds)) : False := by
  rcases h with ⟨_, h⟩ | ⟨_, _, h⟩ | ⟨_, _, h⟩ | ⟨_, _, h⟩ <;> cases h
theorem dsc_tup {v : V} {ds : List PyData} (h : Dsc v (.tuple ds)) : False := by
  rcases h with ⟨_, h⟩ | ⟨_, _, h⟩ | ⟨_, _, h⟩ | ⟨_, _, h⟩ <;> cases h
theorem dsc_one {v v' : V} {d : PyData} (h : Dsc v d) (h' : Dsc v' d) : v = v' := by
  rcases h with ⟨e, z⟩ | ⟨x, e, z⟩ | ⟨x, e, z⟩ | ⟨x, e, z⟩ <;> subst z <;> rcases h' with ⟨e', z⟩ | ⟨y, e', z⟩ | ⟨y, e', z⟩ | ⟨y, e', z⟩ <;> cases z <;> rw [e, e']
theorem kit_no {K : PySem.W.Frag} {c : String} (h1 : kitB c "list" = some false) (h2 : kitB c "tuple" = some false) : PySem.W.kitAny K (.type c) [.type "list", .type "tuple"] = some false :=
  kitAny_cons (b := false) (kit_ty h1) (fun _ => kitAny_cons (b := false) (kit_ty h2) (fun _ => rfl) (fun z => nomatch z)) (fun z => nomatch z)
theorem ixL {K : PySem.W.Frag} {x y : V} {H : Hp} {Q : VK} (h : rIxL K x y H Q) : rIx K x y H Q := .inl h
theorem ixT {K : PySem.W.Frag} {x y : V} {H : Hp} {Q : VK} (h : rIxT K x y H Q) : rIx K x y H Q := .inr (.inl h)
section
variable {P : Program} {w : World} {K : PySem.W.Frag} {mg : Str → Option Value} {base : Heap}
end
end UP

set_option Elab.async false
set_option linter.all false
set_option maxRecDepth 100000
set_option maxHeartbeats 4000000
namespace UP
open PySem PySem.Spec PyProof.Rows L2
/-! ### a walk over one object that stays, whatever else is changed -/
structure WkA (J : It) (H : Hp) (a : Addr) (xs : List V) : Prop where
  go : ∀ i H', H' a = H a → i < xs.length → J.go i H'
  stop : ∀ H', H' a = H a → J.stop xs.length H'
  yld : ∀ i x H' H'', H' a = H a → J.yld i H' x H'' → H'' = H' ∧ xs[i]? = some x
def iSeqA (i : Nat) : TI := fun σ H R => ∃ a xs, σ[i]? = some (some (.ref a)) ∧ Sq2 H a xs ∧ ∀ J, WkA J H a xs → R J H
section
variable {X : Cx}
theorem wka_list {K : PySem.W.Frag} {H : Hp} {a : Addr} {xs : List V} (h : H a = some (.lst xs)) : WkA (Itl K a) H a xs :=
  ⟨fun i H' e hi => ⟨xs, xs[i], .of (e.trans h), List.getElem?_eq_getElem hi⟩, fun H' e => ⟨xs, .of (e.trans h), Nat.le_refl _⟩, fun i x H' H'' e y => ⟨y.1, y.2 xs (.of (e.trans h))⟩⟩
theorem wka_tup {K : PySem.W.Frag} {H : Hp} {a : Addr} {xs : List V} (h : H a = some (.tup xs)) : WkA (Itt K a) H a xs :=
  ⟨fun i H' e hi => ⟨xs, xs[i], .of (e.trans h), List.getElem?_eq_getElem hi⟩, fun H' e => ⟨xs, .of (e.trans h), Nat.le_refl _⟩, fun i x H' H'' e y => ⟨y.1, y.2 xs (.of (e.trans h))⟩⟩
theorem pi_seqA (i : Nat) {x : Str} {pos : Pos} {tg : Expr} (hN : X.N[i]? = some x := by rfl) (hv : Vis X.env.scope x := by first | exact Or.inl rfl | exact Or.inr (Or.inl rfl) | exact Or.inr (Or.inr rfl)) (hd : (x == ("__debug__" : Str)) = false := by decide)
    (hc : (x == ("__classdict__" : Str)) = false := by decide) : PI X tg (.Name x pos) (iSeqA i) := by
  refine ⟨fun pins s σ H R I hw => ?_⟩
  obtain ⟨a, xs, e, h, k⟩ := hw
  rcases h with h | h
  · exact (pi_list (pe_var hN hv hd hc)).run pins s σ H R I ⟨_, e, a, rfl, ⟨xs, .of h⟩, k _ (wka_list h)⟩
  · exact (pi_tup (pe_var hN hv hd hc)).run pins s σ H R I ⟨_, e, a, rfl, ⟨xs, .of h⟩, k _ (wka_tup h)⟩
end
theorem lc_wka {J : It} {H0 H1 : Hp} {a : Addr} {xs : List V} {g : TG} {tt : TT} {te : TE} {vs : List Nat} {σ : L2.St} {D : Addr} {Qd : Hp → Prop} (wk : WkA J H0 a xs) (Pv : Nat → Hp → Prop) (hsm : ∀ i H, Pv i H → H a = H0 a) (h0 : Pv 0 (upd H1 D (.lst [])))
    (hs : ∀ i x H, xs[i]? = some x → Pv i H → g x (wipe σ vs) H fun σ2 H2 => wipe σ2 vs = wipe σ vs ∧ tt σ2 H2 fun b H3 =>
      if b = true then te σ2 H3 fun y H4 => ∃ acc, H4 D = some (.lst acc) ∧ acc.length < sizeLine ∧ Pv (i + 1) (upd H4 D (.lst (acc ++ [y]))) else Pv (i + 1) H3) (hd : ∀ H, Pv xs.length H → Qd H) :
    ∃ W : Nat → Nat → Hp → Prop, (∃ m, W 0 m (upd H1 D (.lst []))) ∧ ∀ i m H, W i m H →
      (J.stop i H ∧ Qd H) ∨ (J.go i H ∧ ∃ Nx : Hp → Prop, (∀ H', Nx H' → ∃ m', m' < m ∧ W (i + 1) m' H') ∧ ∀ x H', J.yld i H x H' → g x (wipe σ vs) H' fun σ2 H2 => wipe σ2 vs = wipe σ vs ∧ tt σ2 H2 fun b H3 =>
        if b = true then te σ2 H3 fun y H4 => ∃ acc, H4 D = some (.lst acc) ∧ acc.length < sizeLine ∧ Nx (upd H4 D (.lst (acc ++ [y]))) else Nx H3) := by
  refine lc_gen Pv h0 (fun i H hi p => wk.go i H (hsm i H p) hi) (fun H p => wk.stop H (hsm _ H p)) (fun i x H H' hi p y => ?_) hd
  obtain ⟨e, ex⟩ := wk.yld i x H H' (hsm i H p) y
  subst e
  exact hs i x _ ex p
theorem for_gen {J : It} {n : Nat} {H : Hp} {g : TG} {tb : TS} {D : Ends} {σ : L2.St} (Pv : Nat → L2.St → Hp → Prop) (h0 : Pv 0 σ H) (hg : ∀ i σ H, i < n → Pv i σ H → J.go i H) (hst : ∀ σ H, Pv n σ H → J.stop n H)
    (hs : ∀ i x σ H H', i < n → Pv i σ H → J.yld i H x H' → g x σ H' fun σ2 H2 => tb { D with nx := Pv (i + 1), ct := Pv (i + 1), bk := D.nx } σ2 H2) (hd : ∀ σ H, Pv n σ H → D.nx σ H) :
    ∃ W : Nat → Nat → L2.St → Hp → Prop, (∃ m, W 0 m σ H) ∧ ∀ i m σ H, W i m σ H →
      (J.stop i H ∧ D.nx σ H) ∨ (J.go i H ∧ ∃ N : L2.St → Hp → Prop, (∀ σ' H', N σ' H' → ∃ m', m' < m ∧ W (i + 1) m' σ' H') ∧ ∀ x H', J.yld i H x H' → g x σ H' fun σ2 H2 => tb { D with nx := N, ct := N, bk := D.nx } σ2 H2) := by
  refine ⟨fun i m σ H => m = n - i ∧ i ≤ n ∧ Pv i σ H, ⟨n, by omega, Nat.zero_le _, h0⟩, ?_⟩
  rintro i m σ H ⟨rfl, hi, p⟩
  by_cases hlt : i < n
  · exact Or.inr ⟨hg i σ H hlt p, Pv (i + 1), fun σ' H' p' => ⟨n - (i + 1), by omega, rfl, hlt, p'⟩, fun x H' y => hs i x σ H H' hlt p y⟩
  · have e : i = n := by omega
    subst e
    exact Or.inl ⟨hst σ H p, hd σ H p⟩
theorem for_wka {J : It} {H0 H : Hp} {a : Addr} {xs : List V} {g : TG} {tb : TS} {D : Ends} {σ : L2.St} (wk : WkA J H0 a xs) (Pv : Nat → L2.St → Hp → Prop) (hsm : ∀ i σ H, Pv i σ H → H a = H0 a) (h0 : Pv 0 σ H)
    (hs : ∀ i x σ H, xs[i]? = some x → Pv i σ H → g x σ H fun σ2 H2 => tb { D with nx := Pv (i + 1), ct := Pv (i + 1), bk := D.nx } σ2 H2) (hd : ∀ σ H, Pv xs.length σ H → D.nx σ H) :
    ∃ W : Nat → Nat → L2.St → Hp → Prop, (∃ m, W 0 m σ H) ∧ ∀ i m σ H, W i m σ H →
      (J.stop i H ∧ D.nx σ H) ∨ (J.go i H ∧ ∃ N : L2.St → Hp → Prop, (∀ σ' H', N σ' H' → ∃ m', m' < m ∧ W (i + 1) m' σ' H') ∧ ∀ x H', J.yld i H x H' → g x σ H' fun σ2 H2 => tb { D with nx := N, ct := N, bk := D.nx } σ2 H2) := by
  refine for_gen Pv h0 (fun i σ H hi p => wk.go i H (hsm i σ H p) hi) (fun σ H p => wk.stop H (hsm _ σ H p)) (fun i x σ H H' hi p y => ?_) hd
  obtain ⟨e, ex⟩ := wk.yld i x H H' (hsm i σ H p) y
  subst e
  exact hs i x σ _ ex p
theorem Sq2.eq {H H' : Hp} {a : Addr} {xs : List V} (h : Sq2 H a xs) (s : Same H H') : H' a = H a := h.elim (fun z => (s _ _ z).trans z.symm) (fun z => (s _ _ z).trans z.symm)
/-! ### data without its dress -/
def Sim (N : Addr → Prop) (H : Hp) : Nat → V → PyData → Prop
  | 0, v, d => Dsc v d
  | n + 1, v, d => Dsc v d ∨ ∃ a xs ds, v = .ref a ∧ N a ∧ Sq2 H a xs ∧ d = .list ds ∧ Paired (Sim N H n) xs ds ∧ ds.length ≤ 1000
theorem Sim.keep {N N' : Addr → Prop} {H H' : Hp} (hn : ∀ a, N a → N' a) (hk : ∀ a o, N a → H a = some o → H' a = some o) : ∀ {n : Nat} {v : V} {d : PyData}, Sim N H n v d → Sim N' H' n v d
  | 0, _, _, h => h
  | n + 1, v, d, h => by
    rcases h with h | ⟨a, xs, ds, e, na, hx, e2, p, l⟩
    · exact .inl h
    · exact .inr ⟨a, xs, ds, e, hn a na, hx.elim (fun z => .inl (hk _ _ na z)) (fun z => .inr (hk _ _ na z)), e2, Paired.imp (fun _ _ z => Sim.keep hn hk z) p, l⟩
theorem Sim.dsc {N : Addr → Prop} {H : Hp} {v : V} {d : PyData} : ∀ {n : Nat}, Dsc v d → Sim N H n v d
  | 0, h => h
  | n + 1, h => .inl h
section
variable {P : Program} {w : World} {K : PySem.W.Frag} {mg : Str → Option Value} {base : Heap}
end
end UP

set_option Elab.async false
set_option linter.all false
set_option maxRecDepth 100000
set_option maxHeartbeats 4000000
namespace UP
open PySem PySem.Spec PyProof.Rows L2
/-! ### waiting items one by one -/
def plS (ws : List Run) (k : Str) (n : Nat) : List Run := match ws with
  | [] => [(k, (n : Int))]
  | r :: t => if r.1 = k then (r :: t) ++ [(k, (n : Int))] else t
def plP (ws : List Run) (k : Str) (n : Nat) : List (Int × Int) := match ws with
  | [] => []
  | r :: _ => if r.1 = k then [] else [(r.2, (n : Int))]
def plA (ws : List Run) (n : Nat) : List Str → List Run
  | [] => ws
  | k :: t => plA (plS ws k n) (n + 1) t
def psR (ws : List Run) (n : Nat) : List Str → List (Int × Int)
  | [] => []
  | k :: t => plP ws k n ++ psR (plS ws k n) (n + 1) t
theorem plA_snoc : ∀ (l : List Str) (ws : List Run) (n : Nat) (k : Str), plA ws n (l ++ [k]) = plS (plA ws n l) k (n + l.length)
  | [], ws, n, k => rfl
  | x :: t, ws, n, k => by
    show plA (plS ws x n) (n + 1) (t ++ [k]) = plS (plA (plS ws x n) (n + 1) t) k (n + (x :: t).length)
    rw [plA_snoc t, List.length_cons, show n + 1 + t.length = n + (t.length + 1) by omega]
theorem psR_snoc : ∀ (l : List Str) (ws : List Run) (n : Nat) (k : Str), psR ws n (l ++ [k]) = psR ws n l ++ plP (plA ws n l) k (n + l.length)
  | [], ws, n, k => by
    show plP ws k n ++ [] = [] ++ plP ws k (n + 0)
    rw [List.append_nil, List.nil_append, Nat.add_zero]
  | x :: t, ws, n, k => by
    show plP ws x n ++ psR (plS ws x n) (n + 1) (t ++ [k]) = (plP ws x n ++ psR (plS ws x n) (n + 1) t) ++ plP (plA (plS ws x n) (n + 1) t) k (n + (x :: t).length)
    rw [psR_snoc t, List.length_cons, List.append_assoc, show n + 1 + t.length = n + (t.length + 1) by omega]
def plMs (ws : List Run) (ks : List Str) : List (List Run) := (List.range (ks.length + 1)).map fun m => plA ws 0 (ks.take m)
theorem plMs_snoc (ws : List Run) (l : List Str) (k : Str) : plMs ws (l ++ [k]) = plMs ws l ++ [plA ws 0 (l ++ [k])] := by
  unfold plMs
  rw [List.length_append, List.length_cons, List.length_nil, Nat.zero_add, List.range_succ, List.map_append]
  congr 1
  · refine List.map_congr_left fun m hm => ?_
    have : m ≤ l.length := by
      have := List.mem_range.mp hm
      omega
    rw [List.take_append_of_le_length this]
  · rw [List.map_singleton, List.take_of_length_le (by rw [List.length_append]; exact Nat.le_refl _)]
theorem plMs_nil (ws : List Run) : plMs ws [] = [ws] := rfl
theorem plMs_len (ws : List Run) (l : List Str) : (plMs ws l).length = l.length + 1 := by
  unfold plMs
  rw [List.length_map, List.length_range]
theorem plS_len (ws : List Run) (k : Str) (n : Nat) : (plS ws k n).length ≤ ws.length + 1 := by
  cases ws with
  | nil => exact Nat.le_refl _
  | cons r t =>
    show (if r.1 = k then (r :: t) ++ [(k, (n : Int))] else t).length ≤ _
    split
    · rw [List.length_append]
      exact Nat.le_refl _
    · rw [List.length_cons]
      omega
theorem plA_len : ∀ (l : List Str) (ws : List Run) (n : Nat), (plA ws n l).length ≤ ws.length + l.length
  | [], ws, n => Nat.le_refl _
  | k :: t, ws, n => by
    have h1 := plA_len t (plS ws k n) (n + 1)
    have h2 := plS_len ws k n
    show (plA (plS ws k n) (n + 1) t).length ≤ _
    rw [List.length_cons]
    omega
theorem plP_len (ws : List Run) (k : Str) (n : Nat) : (plP ws k n).length ≤ 1 := by
  cases ws with
  | nil => exact Nat.zero_le _
  | cons r t =>
    show (if r.1 = k then [] else [(r.2, (n : Int))]).length ≤ 1
    split <;> simp
theorem psR_len : ∀ (l : List Str) (ws : List Run) (n : Nat), (psR ws n l).length ≤ l.length
  | [], ws, n => Nat.le_refl _
  | k :: t, ws, n => by
    have h1 := psR_len t (plS ws k n) (n + 1)
    have h2 := plP_len ws k n
    show (plP ws k n ++ psR (plS ws k n) (n + 1) t).length ≤ _
    rw [List.length_append, List.length_cons]
    omega
theorem plS_kinds {ws : List Run} {k : Str} {n : Nat} (h : ∀ r ∈ ws, KindOk r.1) (hk : KindOk k) : ∀ r ∈ plS ws k n, KindOk r.1 := by
  intro r hr
  cases ws with
  | nil =>
    rw [List.mem_singleton.mp (show r ∈ [(k, (n : Int))] from hr)]
    exact hk
  | cons x t =>
    have hr : r ∈ (if x.1 = k then (x :: t) ++ [(k, (n : Int))] else t) := hr
    by_cases e : x.1 = k
    · rw [if_pos e] at hr
      rcases List.mem_append.mp hr with z | z
      · exact h r z
      · rw [List.mem_singleton.mp z]
        exact hk
    · rw [if_neg e] at hr
      exact h r (List.mem_cons_of_mem _ hr)
theorem plA_kinds : ∀ {l : List Str} {ws : List Run} {n : Nat}, (∀ r ∈ ws, KindOk r.1) → (∀ k ∈ l, KindOk k) → ∀ r ∈ plA ws n l, KindOk r.1
  | [], _, _, h, _ => h
  | k :: t, ws, n, h, hl => plA_kinds (l := t) (plS_kinds h (hl k (List.mem_cons_self ..))) fun x hx => hl x (List.mem_cons_of_mem _ hx)
def w0R : Option Run → List Run
  | none => []
  | some r => List.replicate r.2.toNat (r.1, -1)
def itR (rs : List Run) : List Str := rs.flatMap fun r => List.replicate r.2.toNat r.1
theorem itR_snoc (l : List Run) (r : Run) : itR (l ++ [r]) = itR l ++ List.replicate r.2.toNat r.1 := by
  unfold itR
  rw [List.flatMap_append]
  simp
def PV (H : Hp) (v : V) (p : Int × Int) : Prop := ∃ t, v = .ref t ∧ H t = some (.tup [.int p.1, .int p.2])
theorem PV.same {H H' : Hp} {v : V} {p : Int × Int} (s : Same H H') (h : PV H v p) : PV H' v p := by
  obtain ⟨t, e, h⟩ := h
  exact ⟨t, e, s _ _ h⟩
theorem PV.grow {H : Hp} {D : Addr} {acc acc' : List V} {v : V} {p : Int × Int} (hD : H D = some (.lst acc)) (h : PV H v p) : PV (upd H D (.lst acc')) v p := by
  obtain ⟨t, e, h⟩ := h
  refine ⟨t, e, ?_⟩
  rw [upd_ne (ne_of h hD (by intro q; cases q))]
  exact h
theorem Runs.grow {H : Hp} {D a : Addr} {acc acc' : List V} {ws : List Run} (hD : H D = some (.lst acc)) (n : a ≠ D) (h : Runs H a ws) : Runs (upd H D (.lst acc')) a ws := by
  obtain ⟨xs, hx, hp⟩ := h
  refine ⟨xs, ?_, prs_grow hD hp⟩
  rw [upd_ne n]
  exact hx
/-- a list of runs apart from two others -/
def WL (H : Hp) (M N : Addr) (v : V) (ws : List Run) : Prop := ∃ a, v = .ref a ∧ a ≠ M ∧ a ≠ N ∧ Runs H a ws
theorem WL.same {H H' : Hp} {M N : Addr} {v : V} {ws : List Run} (s : Same H H') (h : WL H M N v ws) : WL H' M N v ws := by
  obtain ⟨a, e, n1, n2, h⟩ := h
  exact ⟨a, e, n1, n2, h.same s⟩
/-- what the play keeps -/
structure Pl (H0 H : Hp) (W M N : Addr) (ws0 : List Run) (ks ls : List Str) : Prop where
  sm : Same H0 H
  wm : W ≠ M
  wn : W ≠ N
  wr : Runs H W (plA ws0 0 ls)
  ms : ∃ xs, H M = some (.lst xs) ∧ Paired (WL H M N) xs (plMs ws0 ks)
  ps : ∃ ys, H N = some (.lst ys) ∧ Paired (PV H) ys (psR ws0 0 ls)
theorem flat_one {α : Type} (x : α) : ∀ n : Nat, (List.replicate n [x]).flatten = List.replicate n x
  | 0 => rfl
  | n + 1 => by
    rw [List.replicate_succ, List.flatten_cons, flat_one x n]
    rfl
theorem paired_rep {α β : Type} {F : α → β → Prop} {a : α} {b : β} (h : F a b) : ∀ n : Nat, Paired F (List.replicate n a) (List.replicate n b)
  | 0 => .nil
  | n + 1 => .cons h (paired_rep h n)
theorem len_items {rs : List Run} (h : ∀ r ∈ rs, 1 ≤ r.2 ∧ r.2 ≤ 1000) : (itR rs).length ≤ 1000 * rs.length := by
  induction rs with
  | nil => exact Nat.le_refl _
  | cons r t ih =>
    have e : itR (r :: t) = List.replicate r.2.toNat r.1 ++ itR t := rfl
    have h1 := h r (List.mem_cons_self ..)
    have h2 := ih fun x hx => h x (List.mem_cons_of_mem _ hx)
    rw [e, List.length_append, List.length_replicate, List.length_cons]
    omega
end UP

set_option Elab.async false
set_option linter.all false
set_option maxRecDepth 100000
set_option maxHeartbeats 4000000
namespace UP
open PySem PySem.Spec PyProof.Rows L2
section
variable {P : Program} {w : World} {K : PySem.W.Frag} {mg : Str → Option Value} {base : Heap}
end
end UP

set_option Elab.async false
set_option linter.all false
set_option maxRecDepth 100000
set_option maxHeartbeats 4000000
namespace UP
open PySem PySem.Spec PyProof.Rows L2
/-! ### one arrival after the other -/
def stI (ks : List Str) (st : Option Run) : Option Run := ks.foldl (fun s k => stepR s k 1) st
theorem stI_app (l m : List Str) (st : Option Run) : stI (l ++ m) st = stI m (stI l st) := List.foldl_append ..
theorem step_same {r : Run} {k : Str} {c : Int} (h : r.1 = k) : stepR (some r) k c = some (k, r.2 + c) := if_pos h
theorem step_other {r : Run} {k : Str} {c : Int} (h : r.1 ≠ k) : stepR (some r) k c = if 0 < r.2 - c then some (r.1, r.2 - c) else if r.2 - c = 0 then none else some (k, -(r.2 - c)) := if_neg h
theorem step_step {s : Option Run} {k : Str} {c : Int} (h : PosO s) (hc : 1 ≤ c) : stepR (stepR s k 1) k c = stepR s k (1 + c) := by
  cases s with
  | none => exact step_same (r := (k, 1)) rfl
  | some r =>
    have r1 := h r rfl
    by_cases e : r.1 = k
    · rw [step_same e, step_same e, step_same (r := (k, r.2 + 1)) rfl]
      show some (k, r.2 + 1 + c) = _
      rw [Int.add_assoc]
    · rw [step_other e, step_other e]
      by_cases h1 : 0 < r.2 - 1
      · rw [if_pos h1, step_other (r := (r.1, r.2 - 1)) e]
        show (if 0 < r.2 - 1 - c then some (r.1, r.2 - 1 - c) else if r.2 - 1 - c = 0 then none else some (k, -(r.2 - 1 - c))) = _
        rw [show r.2 - 1 - c = r.2 - (1 + c) by omega]
      · have e2 : r.2 - 1 = 0 := by omega
        rw [if_neg h1, if_pos e2, if_neg (by omega), if_neg (by omega)]
        show some (k, c) = _
        rw [show -(r.2 - (1 + c)) = c by omega]
theorem it_step : ∀ (n : Nat) (s : Option Run) (k : Str), PosO s → stI (List.replicate (n + 1) k) s = stepR s k ((n : Int) + 1)
  | 0, s, k, _ => rfl
  | n + 1, s, k, h => by
    show stI (List.replicate (n + 1) k) (stepR s k 1) = _
    rw [it_step n _ k (stepR_pos h (by decide)), step_step h (by omega)]
    congr 1
    omega
theorem st_items : ∀ (rs : List Run) (st : Option Run), PosO st → (∀ r ∈ rs, 1 ≤ r.2) → stR rs st = stI (itR rs) st
  | [], st, _, _ => rfl
  | r :: t, st, h, k => by
    have c1 := k r (List.mem_cons_self ..)
    have e : itR (r :: t) = List.replicate r.2.toNat r.1 ++ itR t := rfl
    obtain ⟨n, hn⟩ : ∃ n : Nat, r.2.toNat = n + 1 := ⟨r.2.toNat - 1, by omega⟩
    rw [e, stI_app, hn, it_step n _ _ h, stR_cons, show ((n : Int) + 1) = r.2 by omega]
    exact st_items t _ (stepR_pos h c1) fun x hx => k x (List.mem_cons_of_mem _ hx)
theorem take_app {α : Type} : ∀ (l m : List α) (n : Nat), (l ++ m).take n = l.take n ++ m.take (n - l.length)
  | [], m, n => by
    rw [List.nil_append, List.take_nil, List.nil_append, List.length_nil, Nat.sub_zero]
  | x :: t, m, 0 => by
    rw [List.take_zero, List.take_zero, Nat.zero_sub, List.take_zero]
    rfl
  | x :: t, m, n + 1 => by
    rw [List.cons_append, List.take_succ_cons, take_app t m n, List.take_succ_cons, List.length_cons, Nat.add_sub_add_right]
    rfl
theorem it_app (l m : List Run) : itR (l ++ m) = itR l ++ itR m := List.flatMap_append ..
theorem cut_items (e : Int) : ∀ (rs : List Run) (b : Int), 0 ≤ b → (∀ r ∈ rs, 1 ≤ r.2) → itR (cutR 0 e b rs) = (itR rs).take (e - b).toNat
  | [], b, _, _ => by
    show ([] : List Str) = ([] : List Str).take _
    rw [List.take_nil]
  | r :: t, b, hb, k => by
    have c1 := k r (List.mem_cons_self ..)
    have ih := cut_items e t (b + r.2) (by omega) fun x hx => k x (List.mem_cons_of_mem _ hx)
    have e1 : cutR 0 e b (r :: t) = pieceR b 0 e r ++ cutR 0 e (b + r.2) t := rfl
    have e2 : itR (r :: t) = List.replicate r.2.toNat r.1 ++ itR t := rfl
    rw [e1, it_app, ih, e2, take_app, List.length_replicate, List.take_replicate, show (e - (b + r.2)).toNat = (e - b).toNat - r.2.toNat by omega]
    congr 1
    have es : sizeR b 0 e r.2 = (if b + r.2 < e then b + r.2 else e) - b := by
      unfold sizeR
      by_cases h0 : b > 0
      · rw [if_pos h0]
      · rw [if_neg h0, show b = 0 by omega]
    by_cases hs : 0 < sizeR b 0 e r.2
    · rw [show pieceR b 0 e r = [(r.1, sizeR b 0 e r.2)] from if_pos hs]
      show List.replicate (sizeR b 0 e r.2).toNat r.1 ++ [] = _
      rw [List.append_nil]
      congr 1
      rw [es] at hs ⊢
      split <;> omega
    · rw [show pieceR b 0 e r = [] from if_neg hs]
      rw [es] at hs
      rw [show min (e - b).toNat r.2.toNat = 0 by split at hs <;> omega]
      rfl
theorem len_it : ∀ (rs : List Run), (∀ r ∈ rs, 1 ≤ r.2) → ((itR rs).length : Int) = lenR rs
  | [], _ => rfl
  | r :: t, k => by
    have c1 := k r (List.mem_cons_self ..)
    have ih := len_it t fun x hx => k x (List.mem_cons_of_mem _ hx)
    have e2 : itR (r :: t) = List.replicate r.2.toNat r.1 ++ itR t := rfl
    rw [e2, List.length_append, List.length_replicate, lenR_cons]
    omega
/-! ### what is told of waiting items -/
def Uni (ws : List Run) : Prop := ∀ x ∈ ws, ∀ y ∈ ws, x.1 = y.1
theorem uni_plS {ws : List Run} {k : Str} {n : Nat} (h : Uni ws) : Uni (plS ws k n) := by
  cases ws with
  | nil =>
    intro x hx y hy
    rw [List.mem_singleton.mp (show x ∈ [(k, (n : Int))] from hx), List.mem_singleton.mp (show y ∈ [(k, (n : Int))] from hy)]
  | cons r t =>
    by_cases e : r.1 = k
    · rw [show plS (r :: t) k n = (r :: t) ++ [(k, (n : Int))] from if_pos e]
      have all : ∀ x ∈ (r :: t) ++ [(k, (n : Int))], x.1 = k := by
        intro x hx
        rcases List.mem_append.mp hx with z | z
        · rw [h x z r (List.mem_cons_self ..)]
          exact e
        · rw [List.mem_singleton.mp z]
      intro x hx y hy
      rw [all x hx, all y hy]
    · rw [show plS (r :: t) k n = t from if_neg e]
      exact fun x hx y hy => h x (List.mem_cons_of_mem _ hx) y (List.mem_cons_of_mem _ hy)
theorem told_plS {ws : List Run} {k : Str} {n : Nat} (h : Uni ws) : toldR (plS ws k n) = stepR (toldR ws) k 1 := by
  cases ws with
  | nil => rfl
  | cons r t =>
    by_cases e : r.1 = k
    · rw [show plS (r :: t) k n = (r :: t) ++ [(k, (n : Int))] from if_pos e]
      show some (r.1, (((r :: t) ++ [(k, (n : Int))]).length : Int)) = stepR (some (r.1, ((r :: t).length : Int))) k 1
      rw [step_same (r := (r.1, ((r :: t).length : Int))) e, List.length_append, e]
      show some (k, (((r :: t).length + 1 : Nat) : Int)) = some (k, ((r :: t).length : Int) + 1)
      rw [Int.natCast_add]
      rfl
    · rw [show plS (r :: t) k n = t from if_neg e]
      show toldR t = stepR (some (r.1, ((r :: t).length : Int))) k 1
      rw [step_other (r := (r.1, ((r :: t).length : Int))) e]
      cases t with
      | nil => rfl
      | cons x u =>
        have ex : x.1 = r.1 := h x (List.mem_cons_of_mem _ (List.mem_cons_self ..)) r (List.mem_cons_self ..)
        show some (x.1, ((x :: u).length : Int)) = if 0 < ((r :: x :: u).length : Int) - 1 then some (r.1, ((r :: x :: u).length : Int) - 1) else _
        rw [List.length_cons, List.length_cons, List.length_cons, if_pos (by omega), ex]
        congr 2
        omega
theorem told_plA : ∀ (l : List Str) (ws : List Run) (n : Nat), Uni ws → toldR (plA ws n l) = stI l (toldR ws)
  | [], _, _, _ => rfl
  | k :: t, ws, n, h => by
    show toldR (plA (plS ws k n) (n + 1) t) = stI t (stepR (toldR ws) k 1)
    rw [told_plA t _ _ (uni_plS h), told_plS h]
theorem uni_w0 (st : Option Run) : Uni (w0R st) := by
  cases st with
  | none => intro x hx; cases hx
  | some r =>
    intro x hx y hy
    rw [List.eq_of_mem_replicate hx, List.eq_of_mem_replicate hy]
theorem told_w0 {st : Option Run} (h : PosO st) : toldR (w0R st) = st := by
  cases st with
  | none => rfl
  | some r =>
    have r1 := h r rfl
    obtain ⟨n, hn⟩ : ∃ n : Nat, r.2.toNat = n + 1 := ⟨r.2.toNat - 1, by omega⟩
    show toldR (List.replicate r.2.toNat (r.1, (-1 : Int))) = some r
    rw [hn, List.replicate_succ]
    show some (r.1, (((r.1, (-1 : Int)) :: List.replicate n (r.1, (-1 : Int))).length : Int)) = some r
    rw [List.length_cons, List.length_replicate, show ((n + 1 : Nat) : Int) = r.2 by omega]
/-! ### all counts multiplied -/
def scO (t : Int) (st : Option Run) : Option Run := st.map fun r => (r.1, r.2 * t)
theorem lt_sc {a b t : Int} (ht : 0 < t) : a * t < b * t ↔ a < b :=
  ⟨fun h => by
    by_cases z : a < b
    · exact z
    · have := Int.mul_le_mul_of_nonneg_right (show b ≤ a by omega) (Int.le_of_lt ht)
      omega, fun h => Int.mul_lt_mul_of_pos_right h ht⟩
theorem size_sc {b s e c t : Int} (ht : 0 < t) : sizeR (b * t) (s * t) (e * t) (c * t) = sizeR b s e c * t := by
  unfold sizeR
  rw [← Int.add_mul, Int.sub_mul]
  congr 1
  · by_cases h : b + c < e
    · rw [if_pos h, if_pos ((lt_sc ht).mpr h)]
    · rw [if_neg h, if_neg fun z => h ((lt_sc ht).mp z)]
  · by_cases h : b > s
    · rw [if_pos h, if_pos ((lt_sc ht).mpr h)]
    · rw [if_neg h, if_neg fun z => h ((lt_sc ht).mp z)]
theorem pos_sc {a t : Int} (ht : 0 < t) : 0 < a * t ↔ 0 < a := by
  have := lt_sc (a := 0) (b := a) ht
  rw [Int.zero_mul] at this
  exact this
theorem piece_sc {b s e t : Int} {r : Run} (ht : 0 < t) : pieceR (b * t) (s * t) (e * t) (r.1, r.2 * t) = scR t (pieceR b s e r) := by
  unfold pieceR
  show (if 0 < sizeR (b * t) (s * t) (e * t) (r.2 * t) then [(r.1, sizeR (b * t) (s * t) (e * t) (r.2 * t))] else []) = _
  rw [size_sc ht]
  by_cases h : 0 < sizeR b s e r.2
  · rw [if_pos h, if_pos ((pos_sc ht).mpr h)]
    rfl
  · rw [if_neg h, if_neg fun z => h ((pos_sc ht).mp z)]
    rfl
theorem cut_sc {s e t : Int} (ht : 0 < t) : ∀ (rs : List Run) (b : Int), cutR (s * t) (e * t) (b * t) (scR t rs) = scR t (cutR s e b rs)
  | [], _ => rfl
  | r :: u, b => by
    have ih := cut_sc (s := s) (e := e) ht u (b + r.2)
    show pieceR (b * t) (s * t) (e * t) (r.1, r.2 * t) ++ cutR (s * t) (e * t) (b * t + r.2 * t) (scR t u) = scR t (pieceR b s e r ++ cutR s e (b + r.2) u)
    rw [← Int.add_mul, ih, piece_sc ht]
    unfold scR
    rw [List.map_append]
theorem step_sc {st : Option Run} {k : Str} {c t : Int} (ht : 0 < t) : stepR (scO t st) k (c * t) = scO t (stepR st k c) := by
  cases st with
  | none => rfl
  | some r =>
    show stepR (some (r.1, r.2 * t)) k (c * t) = _
    by_cases e : r.1 = k
    · rw [step_same (r := (r.1, r.2 * t)) e, step_same e]
      show some (k, r.2 * t + c * t) = some (k, (r.2 + c) * t)
      rw [Int.add_mul]
    · rw [step_other (r := (r.1, r.2 * t)) e, step_other e]
      show (if 0 < r.2 * t - c * t then some (r.1, r.2 * t - c * t) else if r.2 * t - c * t = 0 then none else some (k, -(r.2 * t - c * t))) = _
      rw [← Int.sub_mul]
      by_cases h : 0 < r.2 - c
      · rw [if_pos h, if_pos ((pos_sc ht).mpr h)]
        rfl
      · rw [if_neg h, if_neg fun z => h ((pos_sc ht).mp z)]
        by_cases h2 : r.2 - c = 0
        · rw [if_pos h2, h2, Int.zero_mul, if_pos rfl]
          rfl
        · have h3 : (r.2 - c) * t ≠ 0 := Int.mul_ne_zero h2 (by omega)
          rw [if_neg h2, if_neg h3]
          show some (k, -((r.2 - c) * t)) = some (k, -(r.2 - c) * t)
          rw [Int.neg_mul]
theorem st_sc {t : Int} (ht : 0 < t) : ∀ (rs : List Run) (st : Option Run), stR (scR t rs) (scO t st) = scO t (stR rs st)
  | [], _ => rfl
  | r :: u, st => by
    show stR (scR t u) (stepR (scO t st) r.1 (r.2 * t)) = scO t (stR u (stepR st r.1 r.2))
    rw [step_sc ht, st_sc ht u]
theorem len_sc {t : Int} : ∀ (rs : List Run), lenR (scR t rs) = lenR rs * t
  | [] => by
    show (0 : Int) = 0 * t
    rw [Int.zero_mul]
  | r :: u => by
    show lenR ((r.1, r.2 * t) :: scR t u) = _
    rw [lenR_cons, lenR_cons, len_sc u, Int.add_mul]
/-- the multiplied state at a multiplied moment -/
theorem whole_sc {t : Int} {rs : List Run} {st : Option Run} {p : Nat} (ht : 0 < t) (h : PosO st) (k : ∀ r ∈ rs, 1 ≤ r.2) :
    stR (cutR 0 ((p : Int) * t) 0 (scR t rs)) (scO t st) = scO t (toldR (plA (w0R st) 0 ((itR rs).take p))) := by
  have e := cut_sc (s := 0) (e := (p : Int)) ht rs 0
  rw [Int.zero_mul] at e
  rw [e, st_sc ht, told_plA _ _ _ (uni_w0 st), told_w0 h, st_items _ _ h cutR_pos, cut_items _ _ _ (Int.le_refl _) k, Int.sub_zero, Int.toNat_natCast]
end UP

set_option Elab.async false
set_option linter.all false
set_option maxRecDepth 100000
set_option maxHeartbeats 4000000
namespace UP
open PySem PySem.Spec PyProof.Rows L2
theorem room70 {A : Around} {k : Nat} (hr : Room k A) : A.units + 70 < cLine := by
  have := hr.un
  omega
theorem call_list_ofK {X : Cx} {K : PySem.W.Frag} (h : X.K = K) : CallR X (.type "list") (fun xs H Q => ∃ p ys, xs = [.ref p] ∧ (SqL K H p ys ∨ SqT K H p ys) ∧ ∀ l, H l = none → Q (.ref l) (upd H l (.lst ys))) := by
  subst h
  exact call_list_of
/-! ### data that a repr takes -/
structure Nice (w n : Nat) (d : PyData) : Prop where
  can : d.canLay0 = true
  dep : d.depth ≤ n
  sho : d.showable = true
  lea : d.leavesShort 100 = true
  wei : d.weight ≤ w
theorem Nice.mono {w w' n n' : Nat} {d : PyData} (h : Nice w n d) (h1 : w ≤ w') (h2 : n ≤ n') : Nice w' n' d := ⟨h.can, Nat.le_trans h.dep h2, h.sho, h.lea, Nat.le_trans h.wei h1⟩
theorem Nice.fits {w n : Nat} {d : PyData} (h : Nice w n d) (hw : w ≤ 150000) (hn : n ≤ 64) : d.showable = true ∧ SeqAt.shaped d = true ∧ d.shown.length ≤ sizeLine := by
  refine ⟨h.sho, ?_, ?_⟩
  · unfold SeqAt.shaped
    rw [h.can]
    have := h.dep
    exact decide_eq_true (by omega)
  · have h1 := PyData.shown_le 100 (by decide) d h.lea
    have h2 := h.wei
    have h3 : d.shown.length ≤ 16000000 := by omega
    exact Nat.le_trans h3 (by decide)
theorem nice_none : Nice 0 0 .none := ⟨rfl, Nat.le_refl _, rfl, rfl, Nat.le_refl _⟩
theorem nice_str {s : Str} (h : KindOk s) : Nice 8 0 (.str s) := by
  refine ⟨?_, Nat.le_refl _, rfl, ?_, h.2.1⟩
  · rw [PyData.canLay0]
    exact h.str
  · rw [PyData.leavesShort, List.all_eq_true]
    intro c hc
    have := h.2.2 c hc
    exact decide_eq_true (by omega)
theorem nice_int {i : Int} (h : i.natAbs < 10 ^ 60) : Nice 201 0 (.int i) := by
  have h2 : i.natAbs < 2 ^ 200 := Nat.lt_of_lt_of_le h (by decide)
  have h3 : i.natAbs.log2 < 200 := by
    by_cases z : i.natAbs = 0
    · rw [z]
      decide
    · exact (Nat.log2_lt z).mpr h2
  refine ⟨by rw [PyData.canLay0], Nat.le_refl _, ?_, ?_, ?_⟩
  · rw [PyData.showable]
    exact decide_eq_true (by omega)
  · rw [PyData.leavesShort]
    refine decide_eq_true ?_
    have e := int_text_length_le10 (k := 60) (by decide) h
    show (Str.ofString (toString i)).length ≤ 100
    rw [PySem.ofString_length]
    omega
  · rw [PyData.weight]
    split <;> omega
theorem nice_items {w n : Nat} : ∀ {ds : List PyData}, (∀ d ∈ ds, Nice w n d) → PyData.canLayAll0 ds = true ∧ PyData.depthAll ds ≤ n ∧ PyData.showableAll ds = true ∧ PyData.leavesShortAll 100 ds = true ∧ PyData.weightAll ds ≤ (w + 1) * ds.length
  | [], _ => ⟨rfl, Nat.zero_le _, rfl, rfl, Nat.zero_le _⟩
  | d :: t, h => by
    have h1 := h d (List.mem_cons_self ..)
    obtain ⟨a, b, c, e, f⟩ := nice_items (ds := t) fun x hx => h x (List.mem_cons_of_mem _ hx)
    refine ⟨?_, ?_, ?_, ?_, ?_⟩
    · rw [PyData.canLayAll0, h1.can, a]
      rfl
    · rw [PyData.depthAll]
      exact Nat.max_le.mpr ⟨h1.dep, b⟩
    · rw [PyData.showableAll, h1.sho, c]
      rfl
    · rw [PyData.leavesShortAll, h1.lea, e]
      rfl
    · have h2 := h1.wei
      rw [PyData.weightAll, List.length_cons, Nat.mul_succ]
      omega
theorem nice_list {w n : Nat} {ds : List PyData} (h : ∀ d ∈ ds, Nice w n d) : Nice ((w + 1) * ds.length) (n + 1) (.list ds) := by
  obtain ⟨a, b, c, e, f⟩ := nice_items h
  exact ⟨by rw [PyData.canLay0]; exact a, by rw [PyData.depth]; omega, by rw [PyData.showable]; exact c, by rw [PyData.leavesShort]; exact e, by rw [PyData.weight]; exact f⟩
theorem nice_tup {w n : Nat} {ds : List PyData} (h : ∀ d ∈ ds, Nice w n d) : Nice ((w + 1) * ds.length) (n + 1) (.tuple ds) := by
  obtain ⟨a, b, c, e, f⟩ := nice_items h
  exact ⟨by rw [PyData.canLay0]; exact a, by rw [PyData.depth]; omega, by rw [PyData.showable]; exact c, by rw [PyData.leavesShort]; exact e, by rw [PyData.weight]; exact f⟩
/-- v stands for d at H and at every heap that keeps H -/
def DpS (K : PySem.W.Frag) (H : Hp) (v : V) (d : PyData) : Prop := ∀ H', Same H H' → Dp K H' v d
theorem DpS.same {K : PySem.W.Frag} {H H' : Hp} {v : V} {d : PyData} (s : Same H H') (h : DpS K H v d) : DpS K H' v d := fun H2 s2 => h H2 (s.trans s2)
theorem dps_all {K : PySem.W.Frag} {H : Hp} {F : PyData → Prop} : ∀ {xs : List V}, (∀ x ∈ xs, ∃ d, DpS K H x d ∧ F d) → ∃ ds, (∀ H', Same H H' → DpAll K H' xs ds) ∧ ds.length = xs.length ∧ ∀ d ∈ ds, F d
  | [], _ => ⟨[], fun _ _ => .nil, rfl, fun d h => by cases h⟩
  | x :: t, h => by
    obtain ⟨d, h1, h2⟩ := h x (List.mem_cons_self ..)
    obtain ⟨ds, a, b, c⟩ := dps_all (xs := t) fun y hy => h y (List.mem_cons_of_mem _ hy)
    refine ⟨d :: ds, fun H' s => .cons (h1 H' s) (a H' s), congrArg Nat.succ b, fun z hz => ?_⟩
    rcases List.mem_cons.mp hz with e | e
    · rw [e]
      exact h2
    · exact c z e
theorem dps_seq {K : PySem.W.Frag} {H : Hp} {a : Addr} {xs : List V} {w n : Nat} (hx : Sq2 H a xs) (h : ∀ x ∈ xs, ∃ d, DpS K H x d ∧ Nice w n d) : ∃ d, DpS K H (.ref a) d ∧ Nice ((w + 1) * xs.length) (n + 1) d := by
  obtain ⟨ds, h1, h2, h3⟩ := dps_all h
  rcases hx with z | z
  · exact ⟨.list ds, fun H' s => .lst (.of (s _ _ z)) (h1 H' s), by rw [← h2]; exact nice_list h3⟩
  · exact ⟨.tuple ds, fun H' s => .tup (.of (s _ _ z)) (h1 H' s), by rw [← h2]; exact nice_tup h3⟩
theorem dps_run {K : PySem.W.Frag} {H : Hp} {v : V} {r : Run} (h : RunG H v r) (k : KindOk r.1) (c : r.2.natAbs < 10 ^ 60) : ∃ d, DpS K H v d ∧ Nice 404 1 d := by
  obtain ⟨t, rfl, h⟩ := h
  have := dps_seq (K := K) (w := 201) (n := 0) h fun x hx => by
    rcases List.mem_cons.mp hx with e | e
    · rw [e]
      exact ⟨.str r.1, fun _ _ => .str _, (nice_str k).mono (by decide) (Nat.le_refl _)⟩
    · rw [List.mem_singleton.mp e]
      exact ⟨.int r.2, fun _ _ => .int _, nice_int c⟩
  exact this
theorem dps_runs {K : PySem.W.Frag} {H : Hp} {v : V} {rs : List Run} (h : RunsG H v rs) (k : ∀ r ∈ rs, KindOk r.1 ∧ r.2.natAbs < 10 ^ 60) (l : rs.length ≤ 100) : ∃ d, DpS K H v d ∧ Nice 41000 2 d := by
  obtain ⟨a, xs, rfl, hx, hp⟩ := h
  have lx : xs.length = rs.length := Paired.len hp
  obtain ⟨d, h1, h2⟩ := dps_seq (K := K) (w := 404) (n := 1) hx fun x hx => by
    obtain ⟨i, hi, e⟩ := List.mem_iff_getElem.mp hx
    obtain ⟨r, er, hr⟩ := Paired.at hp (List.getElem?_eq_getElem hi)
    rw [e] at hr
    have := k r (List.mem_of_getElem? er)
    exact dps_run hr this.1 this.2
  exact ⟨d, h1, h2.mono (by rw [lx]; omega) (Nat.le_refl _)⟩
theorem dps_st {K : PySem.W.Frag} {H : Hp} {v : V} {st : Option Run} (h : StG H v st) (k : ∀ r, st = some r → KindOk r.1 ∧ r.2.natAbs < 10 ^ 60) : ∃ d, DpS K H v d ∧ Nice 41000 2 d := by
  cases st with
  | none =>
    cases h
    exact ⟨.none, fun _ _ => .non, nice_none.mono (by decide) (by decide)⟩
  | some r =>
    obtain ⟨d, h1, h2⟩ := dps_run (K := K) h (k r rfl).1 (k r rfl).2
    exact ⟨d, h1, h2.mono (by decide) (by decide)⟩
theorem dps_two {K : PySem.W.Frag} {H : Hp} {a : Addr} {x y : V} (h : H a = some (.lst [x, y])) (hx : ∃ d, DpS K H x d ∧ Nice 41000 2 d) (hy : ∃ d, DpS K H y d ∧ Nice 41000 2 d) : ∃ d, DpS K H (.ref a) d ∧ Nice 82002 3 d := by
  have := dps_seq (K := K) (a := a) (xs := [x, y]) (w := 41000) (n := 2) (.inl h) fun z hz => by
    rcases List.mem_cons.mp hz with e | e
    · rw [e]
      exact hx
    · rw [List.mem_singleton.mp e]
      exact hy
  exact this
/-! ### dressed and undressed -/
def dP (r : Run) : PyData := .list [.str r.1, .int r.2]
def dSq (rs : List Run) : PyData := .list (rs.map dP)
def dSt : Option Run → PyData
  | none => .none
  | some r => dP r
theorem sim_pair {N : Addr → Prop} {H : Hp} {n : Nat} (r : Run) : Paired (Sim N H n) [V.str r.1, V.int r.2] [PyData.str r.1, PyData.int r.2] := .cons (Sim.dsc (.inr (.inr (.inr ⟨_, rfl, rfl⟩)))) (.cons (Sim.dsc (.inr (.inr (.inl ⟨_, rfl, rfl⟩)))) .nil)
theorem sim_run {H : Hp} {sp : Addr} {v : V} {r : Run} {n : Nat} (z : Spr H sp) (h : RunV H v r) : Sim (· ≠ sp) H (n + 1) v (dP r) := by
  obtain ⟨t, rfl, h⟩ := h
  obtain ⟨_, _, _, hs, _⟩ := z
  exact .inr ⟨t, _, _, rfl, ne_of h hs (by intro q; cases q), .inr h, rfl, sim_pair r, Nat.le_of_ble_eq_true rfl⟩
theorem sim_seq {H : Hp} {sp a : Addr} {rs : List Run} (z : Spr H sp) (h : Runs H a rs) (l : rs.length ≤ 1000) : Sim (· ≠ sp) H 2 (.ref a) (dSq rs) := by
  have na := Runs.ne z h
  obtain ⟨xs, hx, hp⟩ := h
  refine .inr ⟨a, xs, _, rfl, na, .inl hx, rfl, ?_, by rw [List.length_map]; exact l⟩
  have gen : ∀ {xs : List V} {rs : List Run}, Paired (RunV H) xs rs → Paired (Sim (· ≠ sp) H 1) xs (rs.map dP) := by
    intro xs rs h
    induction h with
    | nil => exact .nil
    | cons h _ ih => exact .cons (sim_run z h) ih
  exact gen hp
theorem sim_st {H : Hp} {sp : Addr} {v : V} {st : Option Run} (z : Spr H sp) (h : StV H v st) : Sim (· ≠ sp) H 2 v (dSt st) := by
  cases st with
  | none =>
    cases h
    exact .inl (.inl ⟨rfl, rfl⟩)
  | some r => exact sim_run z h
theorem sim_one {N : Addr → Prop} {H : Hp} {n : Nat} {v : V} {r : Run} (h : Sim N H (n + 1) v (dP r)) : RunG H v r := by
  rcases h with h | ⟨a, xs, ds, rfl, _, hx, e, p, _⟩
  · exact (dsc_lst h).elim
  · cases e
    have scal : ∀ {m : Nat} {x : V} {s : Str}, Sim N H m x (.str s) → x = .str s := by
      intro m x s h
      have h : Dsc x (.str s) := by
        cases m with
        | zero => exact h
        | succ m =>
          rcases h with h | ⟨_, _, _, _, _, _, e, _⟩
          · exact h
          · cases e
      rcases h with ⟨_, e⟩ | ⟨_, _, e⟩ | ⟨_, _, e⟩ | ⟨y, e1, e⟩ <;> cases e
      exact e1
    have scai : ∀ {m : Nat} {x : V} {s : Int}, Sim N H m x (.int s) → x = .int s := by
      intro m x s h
      have h : Dsc x (.int s) := by
        cases m with
        | zero => exact h
        | succ m =>
          rcases h with h | ⟨_, _, _, _, _, _, e, _⟩
          · exact h
          · cases e
      rcases h with ⟨_, e⟩ | ⟨_, _, e⟩ | ⟨y, e1, e⟩ | ⟨_, _, e⟩ <;> cases e
      exact e1
    cases p with
    | cons h1 p1 =>
      cases p1 with
      | cons h2 p2 =>
        cases p2
        rw [scal h1, scai h2] at hx
        exact ⟨a, rfl, hx⟩
theorem sim_all {N : Addr → Prop} {H : Hp} : ∀ (rs : List Run) (xs : List V), Paired (Sim N H 1) xs (rs.map dP) → Paired (RunG H) xs rs
  | [], xs, h => by
    cases h
    exact .nil
  | r :: t, xs, h => by
    cases h with
    | cons h1 h2 => exact .cons (sim_one h1) (sim_all t _ h2)
theorem sim_runs {N : Addr → Prop} {H : Hp} {v : V} {rs : List Run} (h : Sim N H 2 v (dSq rs)) : RunsG H v rs := by
  rcases h with h | ⟨a, xs, ds, rfl, _, hx, e, p, _⟩
  · exact (dsc_lst h).elim
  · cases e
    refine ⟨a, xs, rfl, hx, ?_⟩
    exact sim_all rs xs p
theorem sim_stg {N : Addr → Prop} {H : Hp} {v : V} {st : Option Run} (h : Sim N H 2 v (dSt st)) : StG H v st := by
  cases st with
  | none =>
    rcases h with h | ⟨_, _, _, _, _, _, e, _⟩
    · rcases h with ⟨e, _⟩ | ⟨_, _, e⟩ | ⟨_, _, e⟩ | ⟨_, _, e⟩
      · exact e
      all_goals cases e
    · cases e
  | some r => exact sim_one h
/-! ### one by one -/
theorem at_moment {rs : List Run} {st : Option Run} {m : Nat} (h : PosO st) (k : ∀ r ∈ rs, 1 ≤ r.2) : stR (cutR 0 (m : Int) 0 rs) st = toldR (plA (w0R st) 0 ((itR rs).take m)) := by
  rw [told_plA _ _ _ (uni_w0 st), told_w0 h, st_items _ _ h cutR_pos, cut_items _ _ _ (Int.le_refl _) k, Int.sub_zero, Int.toNat_natCast]
theorem at_end {rs : List Run} {st : Option Run} (h : PosO st) (k : ∀ r ∈ rs, 1 ≤ r.2) : stR rs st = toldR (plA (w0R st) 0 (itR rs)) := by
  rw [told_plA _ _ _ (uni_w0 st), told_w0 h, st_items _ _ h k]
theorem plMs_get (ws : List Run) (ks : List Str) {n : Nat} (h : n ≤ ks.length) : (plMs ws ks)[n]? = some (plA ws 0 (ks.take n)) := by
  unfold plMs
  rw [List.getElem?_map, List.getElem?_range (by omega)]
  rfl
def dO : Option Run → PyData
  | none => .none
  | some r => dRun r
theorem dt_st {H : Hp} {v : V} {st : Option Run} {n : Nat} (h : StV H v st) : Dt H (n + 1) v (dO st) := by
  cases st with
  | none =>
    cases h
    exact .inl (.inl ⟨rfl, rfl⟩)
  | some r =>
    obtain ⟨t, rfl, h⟩ := h
    refine .inr (.inr ⟨t, _, _, rfl, h, rfl, .cons ?_ (.cons ?_ .nil), Nat.le_of_ble_eq_true rfl⟩)
    · cases n with
      | zero => exact .inr (.inr (.inr ⟨_, rfl, rfl⟩))
      | succ m => exact .inl (.inr (.inr (.inr ⟨_, rfl, rfl⟩)))
    · cases n with
      | zero => exact .inr (.inr (.inl ⟨_, rfl, rfl⟩))
      | succ m => exact .inl (.inr (.inr (.inl ⟨_, rfl, rfl⟩)))
theorem w0_len {st : Option Run} (h : ∀ r, st = some r → r.2 ≤ 1000) : (w0R st).length ≤ 1000 := by
  cases st with
  | none => exact Nat.zero_le _
  | some r =>
    have := h r rfl
    show (List.replicate r.2.toNat (r.1, (-1 : Int))).length ≤ 1000
    rw [List.length_replicate]
    omega
theorem w0_kinds {st : Option Run} (h : StOk st) : ∀ r ∈ w0R st, KindOk r.1 := by
  cases st with
  | none => intro r h; cases h
  | some x =>
    intro r hr
    rw [List.eq_of_mem_replicate hr]
    exact (h x rfl).1
theorem it_kinds {rs : List Run} (h : ∀ r ∈ rs, KindOk r.1) : ∀ k ∈ itR rs, KindOk k := by
  intro k hk
  obtain ⟨r, h1, h2⟩ := List.mem_flatMap.mp hk
  rw [List.eq_of_mem_replicate h2]
  exact h r h1
end UP

set_option Elab.async false
set_option linter.all false
set_option maxRecDepth 100000
set_option maxHeartbeats 4000000
namespace UP
open PySem PySem.Spec PyProof.Rows L2
abbrev Rg := Int × Int
/-! ### ranges without their first positions -/
def rmR (p : Rg) (n : Int) : Int := if p.2 - p.1 + 1 < n then p.2 - p.1 + 1 else n
def wfP (p : Rg) (n : Int) : List Rg := if p.1 + rmR p n ≤ p.2 then [(p.1 + rmR p n, p.2)] else []
def wfR : List Rg → Int → List Rg
  | [], _ => []
  | p :: t, n => wfP p n ++ wfR t (n - rmR p n)
/-- the number that is left to be removed behind some ranges -/
def wfN : List Rg → Int → Int
  | [], n => n
  | p :: t, n => wfN t (n - rmR p n)
theorem wfN_snoc : ∀ (l : List Rg) (p : Rg) (n : Int), wfN (l ++ [p]) n = wfN l n - rmR p (wfN l n)
  | [], _, _ => rfl
  | x :: t, p, n => wfN_snoc t p (n - rmR x n)
theorem wfR_snoc : ∀ (l : List Rg) (p : Rg) (n : Int), wfR (l ++ [p]) n = wfR l n ++ wfP p (wfN l n)
  | [], p, n => by
    show wfP p n ++ [] = [] ++ wfP p n
    rw [List.append_nil, List.nil_append]
  | x :: t, p, n => by
    show wfP x n ++ wfR (t ++ [p]) (n - rmR x n) = (wfP x n ++ wfR t (n - rmR x n)) ++ wfP p (wfN t (n - rmR x n))
    rw [wfR_snoc t, List.append_assoc]
def adP (st : Option Run) (b : Int) (r : Run) : List Rg := if leavR st r.1 r.2 < r.2 then [(b + leavR st r.1 r.2, b + r.2 - 1)] else []
def waR : List Run → Option Run → Int → List Rg → List Rg
  | [], _, _, R => R
  | r :: t, st, b, R => waR t (stepR st r.1 r.2) (b + r.2) (wfR R (leavR st r.1 r.2) ++ adP st b r)
theorem waR_snoc : ∀ (l : List Run) (r : Run) (st : Option Run) (b : Int) (R : List Rg), waR (l ++ [r]) st b R = wfR (waR l st b R) (leavR (stR l st) r.1 r.2) ++ adP (stR l st) (b + lenR l) r
  | [], r, st, b, R => by
    show wfR R (leavR st r.1 r.2) ++ adP st b r = wfR R (leavR st r.1 r.2) ++ adP st (b + lenR []) r
    rw [lenR_nil, Int.add_zero]
  | x :: t, r, st, b, R => by
    show waR (t ++ [r]) (stepR st x.1 x.2) (b + x.2) (wfR R (leavR st x.1 x.2) ++ adP st b x) = wfR (waR t (stepR st x.1 x.2) (b + x.2) (wfR R (leavR st x.1 x.2) ++ adP st b x)) (leavR (stR (x :: t) st) r.1 r.2) ++ adP (stR (x :: t) st) (b + lenR (x :: t)) r
    rw [waR_snoc t, stR_cons, lenR_cons, Int.add_assoc]
/-! ### all counts multiplied -/
def scP (t : Int) (R : List Rg) : List Rg := R.map fun p => (p.1 * t, p.2 * t + t - 1)
theorem le_sc {a b t : Int} (ht : 0 < t) : a * t ≤ b * t ↔ a ≤ b := by
  have := lt_sc (a := b) (b := a) ht
  exact ⟨fun z => by
    by_cases q : b < a
    · have := this.mpr q
      omega
    · omega, fun z => Int.mul_le_mul_of_nonneg_right z (by omega)⟩
theorem last_sc {a b t : Int} (ht : 0 < t) : a * t ≤ b * t + t - 1 ↔ a ≤ b := by
  have e : (b + 1) * t = b * t + t := by rw [Int.add_mul, Int.one_mul]
  have := lt_sc (a := a) (b := b + 1) ht
  rw [e] at this
  exact ⟨fun z => by have := this.mp (by omega); omega, fun z => by have := this.mpr (by omega); omega⟩
theorem rm_sc {p : Rg} {n t : Int} (ht : 0 < t) : rmR (p.1 * t, p.2 * t + t - 1) (n * t) = rmR p n * t := by
  unfold rmR
  have e : (p.2 * t + t - 1) - p.1 * t + 1 = (p.2 - p.1 + 1) * t := by
    rw [Int.add_mul, Int.sub_mul, Int.one_mul]
    omega
  show (if (p.2 * t + t - 1) - p.1 * t + 1 < n * t then (p.2 * t + t - 1) - p.1 * t + 1 else n * t) = _
  rw [e]
  by_cases g : p.2 - p.1 + 1 < n
  · rw [if_pos g, if_pos ((lt_sc ht).mpr g)]
  · rw [if_neg g, if_neg fun z => g ((lt_sc ht).mp z)]
theorem wfP_sc {p : Rg} {n t : Int} (ht : 0 < t) : wfP (p.1 * t, p.2 * t + t - 1) (n * t) = scP t (wfP p n) := by
  unfold wfP
  rw [rm_sc ht]
  show (if p.1 * t + rmR p n * t ≤ p.2 * t + t - 1 then [(p.1 * t + rmR p n * t, p.2 * t + t - 1)] else []) = _
  rw [← Int.add_mul]
  by_cases g : p.1 + rmR p n ≤ p.2
  · rw [if_pos g, if_pos ((last_sc ht).mpr g)]
    rfl
  · rw [if_neg g, if_neg fun z => g ((last_sc ht).mp z)]
    rfl
theorem wfR_sc {t : Int} (ht : 0 < t) : ∀ (R : List Rg) (n : Int), wfR (scP t R) (n * t) = scP t (wfR R n)
  | [], _ => rfl
  | p :: u, n => by
    show wfP (p.1 * t, p.2 * t + t - 1) (n * t) ++ wfR (scP t u) (n * t - rmR (p.1 * t, p.2 * t + t - 1) (n * t)) = scP t (wfP p n ++ wfR u (n - rmR p n))
    rw [wfP_sc ht, rm_sc ht, ← Int.sub_mul, wfR_sc ht u]
    unfold scP
    rw [List.map_append]
theorem leav_sc {st : Option Run} {k : Str} {c t : Int} (ht : 0 < t) : leavR (scO t st) k (c * t) = leavR st k c * t := by
  cases st with
  | none =>
    show (0 : Int) = 0 * t
    rw [Int.zero_mul]
  | some x =>
    show (if x.1 = k then 0 else if c * t < x.2 * t then c * t else x.2 * t) = (if x.1 = k then 0 else if c < x.2 then c else x.2) * t
    by_cases e : x.1 = k
    · rw [if_pos e, if_pos e, Int.zero_mul]
    · rw [if_neg e, if_neg e]
      by_cases g : c < x.2
      · rw [if_pos g, if_pos ((lt_sc ht).mpr g)]
      · rw [if_neg g, if_neg fun z => g ((lt_sc ht).mp z)]
theorem adP_sc {st : Option Run} {b t : Int} {r : Run} (ht : 0 < t) : adP (scO t st) (b * t) (r.1, r.2 * t) = scP t (adP st b r) := by
  unfold adP
  rw [leav_sc ht]
  by_cases g : leavR st r.1 r.2 < r.2
  · rw [if_pos g, if_pos ((lt_sc ht).mpr g)]
    show [(b * t + leavR st r.1 r.2 * t, b * t + r.2 * t - 1)] = [((b + leavR st r.1 r.2) * t, (b + r.2 - 1) * t + t - 1)]
    rw [← Int.add_mul, ← Int.add_mul, Int.sub_mul, Int.one_mul]
    congr 2
    omega
  · rw [if_neg g, if_neg fun z => g ((lt_sc ht).mp z)]
    rfl
theorem waR_sc {t : Int} (ht : 0 < t) : ∀ (rs : List Run) (st : Option Run) (b : Int) (R : List Rg), waR (scR t rs) (scO t st) (b * t) (scP t R) = scP t (waR rs st b R)
  | [], _, _, _ => rfl
  | r :: u, st, b, R => by
    show waR (scR t u) (stepR (scO t st) r.1 (r.2 * t)) (b * t + r.2 * t) (wfR (scP t R) (leavR (scO t st) r.1 (r.2 * t)) ++ adP (scO t st) (b * t) (r.1, r.2 * t)) = scP t (waR u (stepR st r.1 r.2) (b + r.2) (wfR R (leavR st r.1 r.2) ++ adP st b r))
    rw [step_sc ht, ← Int.add_mul, leav_sc ht, wfR_sc ht, adP_sc ht]
    have e : scP t (wfR R (leavR st r.1 r.2)) ++ scP t (adP st b r) = scP t (wfR R (leavR st r.1 r.2) ++ adP st b r) := by
      unfold scP
      rw [List.map_append]
    rw [e, waR_sc ht u]
/-! ### the ranges of positions -/
def rgS (t : Int) (F : List Rg) (p : Int) : List Rg := match F.getLast? with
  | none => F ++ [(p * t, p * t + t - 1)]
  | some l => if l.2 = p * t - 1 then F.dropLast ++ [(l.1, p * t + t - 1)] else F ++ [(p * t, p * t + t - 1)]
def rgR (t : Int) (ps : List Int) : List Rg := ps.foldl (rgS t) []
theorem rgS_sc {t : Int} (ht : 0 < t) (F : List Rg) (p : Int) : rgS t (scP t F) p = scP t (rgS 1 F p) := by
  unfold rgS
  have eg : (scP t F).getLast? = F.getLast?.map fun p => (p.1 * t, p.2 * t + t - 1) := by
    unfold scP
    rw [List.getLast?_map]
  rw [eg]
  cases F.getLast? with
  | none =>
    show scP t F ++ [(p * t, p * t + t - 1)] = scP t (F ++ [(p * 1, p * 1 + 1 - 1)])
    unfold scP
    rw [List.map_append, Int.mul_one, show p + 1 - 1 = p by omega]
    rfl
  | some l =>
    show (if l.2 * t + t - 1 = p * t - 1 then (scP t F).dropLast ++ [(l.1 * t, p * t + t - 1)] else scP t F ++ [(p * t, p * t + t - 1)]) = scP t (if l.2 = p * 1 - 1 then F.dropLast ++ [(l.1, p * 1 + 1 - 1)] else F ++ [(p * 1, p * 1 + 1 - 1)])
    rw [Int.mul_one, show p + 1 - 1 = p by omega]
    have iff : l.2 * t + t - 1 = p * t - 1 ↔ l.2 = p - 1 := by
      have e : (l.2 + 1) * t = l.2 * t + t := by rw [Int.add_mul, Int.one_mul]
      constructor
      · intro z
        have a := (le_sc (a := l.2 + 1) (b := p) ht).mp (by omega)
        have b := (le_sc (a := p) (b := l.2 + 1) ht).mp (by omega)
        omega
      · intro z
        have : (l.2 + 1) * t = p * t := by rw [show l.2 + 1 = p by omega]
        omega
    by_cases g : l.2 = p - 1
    · rw [if_pos g, if_pos (iff.mpr g)]
      unfold scP
      rw [List.map_append, List.map_dropLast]
      rfl
    · rw [if_neg g, if_neg fun z => g (iff.mp z)]
      unfold scP
      rw [List.map_append]
      rfl
theorem rgR_sc {t : Int} (ht : 0 < t) (ps : List Int) : rgR t ps = scP t (rgR 1 ps) := by
  unfold rgR
  have gen : ∀ (ps : List Int) (F : List Rg), ps.foldl (rgS t) (scP t F) = scP t (ps.foldl (rgS 1) F) := by
    intro ps
    induction ps with
    | nil => intro F; rfl
    | cons p u ih =>
      intro F
      show u.foldl (rgS t) (rgS t (scP t F) p) = scP t (u.foldl (rgS 1) (rgS 1 F p))
      rw [rgS_sc ht, ih]
  exact gen ps []
/-! ### positions -/
def posL (a : Int) : Nat → List Int
  | 0 => []
  | n + 1 => a :: posL (a + 1) n
theorem posL_app : ∀ (m n : Nat) (a : Int), posL a (m + n) = posL a m ++ posL (a + (m : Int)) n
  | 0, n, a => by
    rw [Nat.zero_add, show a + ((0 : Nat) : Int) = a by omega]
    rfl
  | m + 1, n, a => by
    rw [show m + 1 + n = (m + n) + 1 by omega]
    show a :: posL (a + 1) (m + n) = a :: (posL (a + 1) m ++ posL (a + ((m + 1 : Nat) : Int)) n)
    rw [posL_app m n, show a + 1 + (m : Int) = a + ((m + 1 : Nat) : Int) by omega]
theorem posL_len : ∀ (n : Nat) (a : Int), (posL a n).length = n
  | 0, _ => rfl
  | n + 1, a => congrArg Nat.succ (posL_len n _)
theorem posL_drop (a : Int) (n k : Nat) (h : k ≤ n) : (posL a n).drop k = posL (a + (k : Int)) (n - k) := by
  have e : n = k + (n - k) := by omega
  rw [e, posL_app, List.drop_append_of_le_length (by rw [posL_len]; exact Nat.le_refl _), List.drop_of_length_le (by rw [posL_len]; exact Nat.le_refl _), List.nil_append, show k + (n - k) - k = n - k by omega]
def flP (p : Rg) : List Int := posL p.1 (p.2 - p.1 + 1).toNat
def flR (R : List Rg) : List Int := R.flatMap flP
theorem flR_cons (p : Rg) (t : List Rg) : flR (p :: t) = flP p ++ flR t := rfl
theorem flR_app (R S : List Rg) : flR (R ++ S) = flR R ++ flR S := List.flatMap_append ..
/-- ascending, with gaps, below b -/
def Gd : List Rg → Int → Prop
  | [], _ => True
  | p :: t, b => p.1 ≤ p.2 ∧ p.2 < b ∧ (∀ x, t.head? = some x → p.2 + 1 < x.1) ∧ Gd t b
theorem Gd.mono {b b' : Int} (h : b ≤ b') : ∀ {R : List Rg}, Gd R b → Gd R b'
  | [], _ => trivial
  | p :: t, g => ⟨g.1, by have := g.2.1; omega, g.2.2.1, Gd.mono h g.2.2.2⟩
theorem Gd.last {b : Int} : ∀ {R : List Rg}, Gd R b → ∀ l, R.getLast? = some l → l.2 < b
  | [], _, l, h => by cases h
  | [p], g, l, h => by
    have e : p = l := Option.some.inj h
    rw [← e]
    exact g.2.1
  | p :: q :: t, g, l, h => by
    rw [List.getLast?_cons_cons] at h
    exact Gd.last g.2.2.2 l h
theorem Gd.snoc {b : Int} {p : Rg} : ∀ {R : List Rg}, Gd R b → p.1 ≤ p.2 → p.2 < b → (∀ l, R.getLast? = some l → l.2 + 1 < p.1) → Gd (R ++ [p]) b
  | [], _, h1, h2, _ => ⟨h1, h2, (fun x h => by cases h), trivial⟩
  | [q], g, h1, h2, h3 => ⟨g.1, g.2.1, (fun x h => by have e : p = x := Option.some.inj h; rw [← e]; exact h3 q rfl), h1, h2, (fun x h => by cases h), trivial⟩
  | q :: r :: t, g, h1, h2, h3 => by
    have ih := Gd.snoc (R := r :: t) g.2.2.2 h1 h2 (fun l hl => h3 l (by rw [List.getLast?_cons_cons]; exact hl))
    exact ⟨g.1, g.2.1, (fun x h => g.2.2.1 x h), ih⟩
theorem rm_le {p : Rg} {n : Int} (h : p.1 ≤ p.2) (hn : 0 ≤ n) : 0 ≤ rmR p n ∧ rmR p n ≤ n ∧ rmR p n ≤ p.2 - p.1 + 1 ∧ (rmR p n < p.2 - p.1 + 1 → rmR p n = n) := by
  unfold rmR
  split <;> omega
theorem wf_zero {b : Int} : ∀ {R : List Rg}, Gd R b → wfR R 0 = R
  | [], _ => rfl
  | p :: t, g => by
    have h := rm_le (p := p) (n := 0) g.1 (Int.le_refl _)
    have e : rmR p 0 = 0 := by omega
    show wfP p 0 ++ wfR t (0 - rmR p 0) = p :: t
    unfold wfP
    rw [e, Int.sub_zero, Int.add_zero, if_pos g.1, wf_zero g.2.2.2]
    rfl
theorem wf_flat {b : Int} : ∀ {R : List Rg} {n : Int}, Gd R b → 0 ≤ n → flR (wfR R n) = (flR R).drop n.toNat
  | [], n, _, _ => by
    show ([] : List Int) = ([] : List Int).drop _
    rw [List.drop_nil]
  | p :: t, n, g, hn => by
    have g1 := g.1
    have h := rm_le (p := p) g1 hn
    have ih := wf_flat (n := n - rmR p n) g.2.2.2 (by omega)
    show flR (wfP p n ++ wfR t (n - rmR p n)) = (flP p ++ flR t).drop n.toNat
    rw [flR_app, ih, List.drop_append]
    have lp : (flP p).length = (p.2 - p.1 + 1).toNat := posL_len _ _
    rw [lp]
    by_cases c : p.1 + rmR p n ≤ p.2
    · have e : rmR p n = n := h.2.2.2 (by omega)
      have e1 : wfP p n = [(p.1 + rmR p n, p.2)] := if_pos c
      rw [e1, e, show n - n = 0 by omega, show n.toNat - (p.2 - p.1 + 1).toNat = 0 by omega]
      congr 1
      show posL (p.1 + n) (p.2 - (p.1 + n) + 1).toNat ++ [] = (posL p.1 (p.2 - p.1 + 1).toNat).drop n.toNat
      rw [List.append_nil, posL_drop _ _ _ (by omega), show (n.toNat : Int) = n by omega, show (p.2 - (p.1 + n) + 1).toNat = (p.2 - p.1 + 1).toNat - n.toNat by omega]
    · have e1 : wfP p n = [] := if_neg c
      rw [e1, show (n - rmR p n).toNat = n.toNat - (p.2 - p.1 + 1).toNat by omega]
      congr 1
      show [] = (posL p.1 (p.2 - p.1 + 1).toNat).drop n.toNat
      rw [List.drop_of_length_le (by rw [posL_len]; omega)]
theorem wf_good {b : Int} : ∀ {R : List Rg} {n : Int}, Gd R b → 0 ≤ n → Gd (wfR R n) b
  | [], _, _, _ => trivial
  | p :: t, n, g, hn => by
    have g1 := g.1
    have h := rm_le (p := p) g1 hn
    show Gd (wfP p n ++ wfR t (n - rmR p n)) b
    by_cases c : p.1 + rmR p n ≤ p.2
    · have e : rmR p n = n := h.2.2.2 (by omega)
      have e1 : wfP p n = [(p.1 + rmR p n, p.2)] := if_pos c
      rw [e1, show n - rmR p n = 0 by omega, wf_zero g.2.2.2]
      exact ⟨c, g.2.1, g.2.2.1, g.2.2.2⟩
    · have e1 : wfP p n = [] := if_neg c
      rw [e1]
      exact wf_good g.2.2.2 (by omega)
theorem wf_lastlt {b : Int} {R : List Rg} {n : Int} (g : Gd R b) (hn : 0 ≤ n) : ∀ l, (wfR R n).getLast? = some l → l.2 < b := fun l h => Gd.last (wf_good g hn) l h
/-! ### ranges of positions are the ranges -/
theorem rg_more : ∀ (k : Nat) (F : List Rg) (a q : Int), (posL (q + 1) k).foldl (rgS 1) (F ++ [(a, q)]) = F ++ [(a, q + (k : Int))]
  | 0, F, a, q => by
    rw [show q + ((0 : Nat) : Int) = q by omega]
    rfl
  | k + 1, F, a, q => by
    show (posL (q + 1 + 1) k).foldl (rgS 1) (rgS 1 (F ++ [(a, q)]) (q + 1)) = _
    have e : rgS 1 (F ++ [(a, q)]) (q + 1) = F ++ [(a, q + 1)] := by
      unfold rgS
      rw [List.getLast?_concat]
      show (if q = (q + 1) * 1 - 1 then (F ++ [(a, q)]).dropLast ++ [(a, (q + 1) * 1 + 1 - 1)] else _) = _
      rw [if_pos (by omega), List.dropLast_concat, Int.mul_one, show q + 1 + 1 - 1 = q + 1 by omega]
    rw [e, rg_more k F a (q + 1), show q + 1 + (k : Int) = q + ((k + 1 : Nat) : Int) by omega]
theorem rg_flat {b : Int} : ∀ (R : List Rg) (F : List Rg), Gd R b → (∀ l p, F.getLast? = some l → R.head? = some p → l.2 + 1 < p.1) → (flR R).foldl (rgS 1) F = F ++ R
  | [], F, _, _ => by
    rw [List.append_nil]
    rfl
  | p :: t, F, g, h => by
    have g1 := g.1
    obtain ⟨k, hk⟩ : ∃ k : Nat, (p.2 - p.1 + 1).toNat = k + 1 := ⟨(p.2 - p.1).toNat, by omega⟩
    have e0 : flP p = p.1 :: posL (p.1 + 1) k := by
      unfold flP
      rw [hk]
      rfl
    rw [flR_cons, List.foldl_append, e0]
    show (flR t).foldl (rgS 1) ((posL (p.1 + 1) k).foldl (rgS 1) (rgS 1 F p.1)) = F ++ p :: t
    have e1 : rgS 1 F p.1 = F ++ [(p.1, p.1)] := by
      unfold rgS
      cases e : F.getLast? with
      | none =>
        show F ++ [(p.1 * 1, p.1 * 1 + 1 - 1)] = _
        rw [Int.mul_one, show p.1 + 1 - 1 = p.1 by omega]
      | some l =>
        have := h l p e rfl
        show (if l.2 = p.1 * 1 - 1 then _ else F ++ [(p.1 * 1, p.1 * 1 + 1 - 1)]) = _
        rw [if_neg (by omega), Int.mul_one, show p.1 + 1 - 1 = p.1 by omega]
    rw [e1, rg_more, show p.1 + (k : Int) = p.2 by omega]
    have ep : (p.1, p.2) = p := rfl
    rw [ep, rg_flat t (F ++ [p]) g.2.2.2 (fun l q hl hq => by
      rw [List.getLast?_concat] at hl
      have e : p = l := Option.some.inj hl
      rw [← e]
      exact g.2.2.1 q hq), List.append_assoc]
    rfl
/-! ### positions that wait, run by run -/
def psW (ws : List Run) : List Int := ws.map (·.2)
theorem pl_same : ∀ (c : Nat) (ws : List Run) (n : Nat) (k : Str), (∀ r ∈ ws, r.1 = k) → psW (plA ws n (List.replicate c k)) = psW ws ++ posL (n : Int) c
  | 0, ws, n, k, _ => by
    show psW ws = psW ws ++ []
    rw [List.append_nil]
  | c + 1, ws, n, k, h => by
    have e : plS ws k n = ws ++ [(k, (n : Int))] := by
      cases ws with
      | nil => rfl
      | cons r t => exact if_pos (h r (List.mem_cons_self ..))
    show psW (plA (plS ws k n) (n + 1) (List.replicate c k)) = psW ws ++ ((n : Int) :: posL ((n : Int) + 1) c)
    rw [e, pl_same c _ (n + 1) k (fun r hr => by
      rcases List.mem_append.mp hr with z | z
      · exact h r z
      · rw [List.mem_singleton.mp z])]
    unfold psW
    rw [List.map_append, List.append_assoc]
    rfl
theorem pl_other : ∀ (c : Nat) (ws : List Run) (n : Nat) (k : Str), (∀ r ∈ ws, r.1 ≠ k) → psW (plA ws n (List.replicate c k)) = (psW ws).drop c ++ posL ((n : Int) + (ws.length : Int)) (c - ws.length)
  | 0, ws, n, k, _ => by
    show psW ws = (psW ws).drop 0 ++ posL _ (0 - ws.length)
    rw [Nat.zero_sub]
    show psW ws = psW ws ++ []
    rw [List.append_nil]
  | c + 1, [], n, k, _ => by
    have := pl_same (c + 1) [] n k (fun r h => by cases h)
    rw [this]
    show [] ++ posL (n : Int) (c + 1) = ([] : List Int).drop (c + 1) ++ posL ((n : Int) + 0) (c + 1 - 0)
    rw [List.drop_nil, Int.add_zero]
    rfl
  | c + 1, r :: t, n, k, h => by
    have e : plS (r :: t) k n = t := if_neg (h r (List.mem_cons_self ..))
    show psW (plA (plS (r :: t) k n) (n + 1) (List.replicate c k)) = (psW t).drop c ++ posL ((n : Int) + ((r :: t).length : Int)) (c + 1 - (r :: t).length)
    rw [e, pl_other c t (n + 1) k (fun x hx => h x (List.mem_cons_of_mem _ hx)), List.length_cons, show ((n + 1 : Nat) : Int) + (t.length : Int) = (n : Int) + ((t.length + 1 : Nat) : Int) by omega, show c + 1 - (t.length + 1) = c - t.length by omega]
end UP

set_option Elab.async false
set_option linter.all false
set_option maxRecDepth 100000
set_option maxHeartbeats 4000000
namespace UP
open PySem PySem.Spec PyProof.Rows L2
theorem plA_app : ∀ (l m : List Str) (ws : List Run) (n : Nat), plA ws n (l ++ m) = plA (plA ws n l) (n + l.length) m
  | [], m, ws, n => rfl
  | k :: t, m, ws, n => by
    show plA (plS ws k n) (n + 1) (t ++ m) = plA (plA (plS ws k n) (n + 1) t) (n + (k :: t).length) m
    rw [plA_app t m, List.length_cons, show n + 1 + t.length = n + (t.length + 1) by omega]
theorem uni_plA : ∀ (l : List Str) (ws : List Run) (n : Nat), Uni ws → Uni (plA ws n l)
  | [], _, _, h => h
  | k :: t, ws, n, h => uni_plA t _ _ (uni_plS h)
theorem told_len {ws : List Run} : numR (toldR ws) = (ws.length : Int) := by
  cases ws with
  | nil => rfl
  | cons r t => rfl
/-- one run -/
theorem one_run {ws : List Run} {R : List Rg} {n : Nat} {r : Run} (u : Uni ws) (fl : flR R = psW ws) (g : Gd R (n : Int)) (c1 : 1 ≤ r.2) (bd : ∀ l, R.getLast? = some l → l.2 = (n : Int) - 1 → ∀ x, toldR ws = some x → x.1 ≠ r.1) :
    flR (wfR R (leavR (toldR ws) r.1 r.2) ++ adP (toldR ws) (n : Int) r) = psW (plA ws n (List.replicate r.2.toNat r.1)) ∧ Gd (wfR R (leavR (toldR ws) r.1 r.2) ++ adP (toldR ws) (n : Int) r) ((n : Int) + r.2) ∧
    ∀ l, (wfR R (leavR (toldR ws) r.1 r.2) ++ adP (toldR ws) (n : Int) r).getLast? = some l → l.2 = (n : Int) + r.2 - 1 → ∀ x, toldR (plA ws n (List.replicate r.2.toNat r.1)) = some x → x.1 = r.1 := by
  obtain ⟨c, hc⟩ : ∃ c : Nat, r.2.toNat = c + 1 := ⟨r.2.toNat - 1, by omega⟩
  have er : ((c : Int) + 1) = r.2 := by omega
  have nn : PosO (toldR ws) := by
    intro x hx
    cases ws with
    | nil => cases hx
    | cons y t =>
      cases hx
      show 1 ≤ (((y :: t).length : Nat) : Int)
      rw [List.length_cons]
      omega
  have told' : toldR (plA ws n (List.replicate r.2.toNat r.1)) = stepR (toldR ws) r.1 r.2 := by
    rw [told_plA _ _ _ u, hc, it_step c _ _ nn, er]
  cases ws with
  | nil =>
    -- nobody waits
    have eR : R = [] := by
      cases R with
      | nil => rfl
      | cons p t =>
        have g1 := g.1
        have : flR (p :: t) = [] := fl
        rw [flR_cons] at this
        have l0 := congrArg List.length this
        rw [List.length_append, show (flP p).length = (p.2 - p.1 + 1).toNat from posL_len _ _] at l0
        have l0 : (p.2 - p.1 + 1).toNat + (flR t).length = 0 := l0
        omega
    subst eR
    have lv : leavR (toldR []) r.1 r.2 = 0 := rfl
    have ad : adP (toldR []) (n : Int) r = [((n : Int) + 0, (n : Int) + r.2 - 1)] := if_pos (by rw [lv]; omega)
    rw [lv, ad]
    refine ⟨?_, ⟨by show (n : Int) + 0 ≤ (n : Int) + r.2 - 1; omega, by show (n : Int) + r.2 - 1 < (n : Int) + r.2; omega, (fun x h => by cases h), trivial⟩, fun l _ _ x hx => ?_⟩
    · rw [pl_same r.2.toNat [] n r.1 (fun r h => by cases h)]
      show posL ((n : Int) + 0) ((n : Int) + r.2 - 1 - ((n : Int) + 0) + 1).toNat ++ [] = [] ++ posL (n : Int) r.2.toNat
      rw [List.append_nil, List.nil_append, Int.add_zero, show (n : Int) + r.2 - 1 - (n : Int) + 1 = r.2 by omega]
    · rw [told'] at hx
      cases hx
      rfl
  | cons y t =>
    by_cases e : y.1 = r.1
    · -- the same kind
      have all : ∀ x ∈ y :: t, x.1 = r.1 := fun x hx => (u x hx y (List.mem_cons_self ..)).trans e
      have lv : leavR (toldR (y :: t)) r.1 r.2 = 0 := if_pos e
      have ad : adP (toldR (y :: t)) (n : Int) r = [((n : Int) + 0, (n : Int) + r.2 - 1)] := by
        unfold adP
        rw [lv, if_pos (by omega)]
      rw [lv, ad, wf_zero g]
      refine ⟨?_, ?_, fun l _ _ x hx => ?_⟩
      · rw [flR_app, fl, pl_same r.2.toNat _ n r.1 all]
        congr 1
        show posL ((n : Int) + 0) ((n : Int) + r.2 - 1 - ((n : Int) + 0) + 1).toNat ++ [] = _
        rw [List.append_nil, Int.add_zero, show (n : Int) + r.2 - 1 - (n : Int) + 1 = r.2 by omega]
      · refine Gd.snoc (Gd.mono (by omega) g) (by show (n : Int) + 0 ≤ (n : Int) + r.2 - 1; omega) (by show (n : Int) + r.2 - 1 < (n : Int) + r.2; omega) fun l hl => ?_
        have h1 := Gd.last g l hl
        show l.2 + 1 < (n : Int) + 0
        by_cases z : l.2 = (n : Int) - 1
        · exact absurd e (bd l hl z (y.1, ((y :: t).length : Int)) rfl)
        · omega
      · rw [told', show stepR (toldR (y :: t)) r.1 r.2 = some (r.1, _ + r.2) from step_same e] at hx
        cases hx
        rfl
    · -- another kind
      have all : ∀ x ∈ y :: t, x.1 ≠ r.1 := fun x hx z => e ((u y (List.mem_cons_self ..) x hx).trans z)
      have lv : leavR (toldR (y :: t)) r.1 r.2 = if r.2 < ((y :: t).length : Int) then r.2 else ((y :: t).length : Int) := if_neg e
      have lfl : (flR R).length = (y :: t).length := by
        rw [fl]
        exact List.length_map _
      by_cases q : r.2 ≤ ((y :: t).length : Int)
      · have lv1 : leavR (toldR (y :: t)) r.1 r.2 = r.2 := by
          rw [lv]
          split <;> omega
        have ad : adP (toldR (y :: t)) (n : Int) r = [] := if_neg (by rw [lv1]; omega)
        rw [lv1, ad, List.append_nil]
        refine ⟨?_, Gd.mono (by omega) (wf_good g (by omega)), fun l hl hz => ?_⟩
        · rw [wf_flat g (by omega), fl, pl_other r.2.toNat _ n r.1 all, show r.2.toNat - (y :: t).length = 0 by omega]
          show _ = _ ++ []
          rw [List.append_nil]
        · have := wf_lastlt g (show 0 ≤ r.2 by omega) l hl
          omega
      · have lv1 : leavR (toldR (y :: t)) r.1 r.2 = ((y :: t).length : Int) := by
          rw [lv, if_neg (by omega)]
        have ad : adP (toldR (y :: t)) (n : Int) r = [((n : Int) + ((y :: t).length : Int), (n : Int) + r.2 - 1)] := by
          unfold adP
          rw [lv1, if_pos (by omega)]
        have fl0 : flR (wfR R ((y :: t).length : Int)) = [] := by
          rw [wf_flat g (by omega), Int.toNat_natCast, List.drop_of_length_le (by omega)]
        have w0 : wfR R ((y :: t).length : Int) = [] := by
          cases hw : wfR R ((y :: t).length : Int) with
          | nil => rfl
          | cons p s =>
            have gg := wf_good g (show 0 ≤ ((y :: t).length : Int) by omega)
            rw [hw] at gg fl0
            have g1 := gg.1
            rw [flR_cons] at fl0
            have l0 := congrArg List.length fl0
            rw [List.length_append, show (flP p).length = (p.2 - p.1 + 1).toNat from posL_len _ _] at l0
            have l0 : (p.2 - p.1 + 1).toNat + (flR s).length = 0 := l0
            omega
        rw [lv1, ad, w0]
        refine ⟨?_, ⟨by show (n : Int) + ((y :: t).length : Int) ≤ (n : Int) + r.2 - 1; omega, by show (n : Int) + r.2 - 1 < (n : Int) + r.2; omega, (fun x h => by cases h), trivial⟩, fun l _ _ x hx => ?_⟩
        · rw [pl_other r.2.toNat _ n r.1 all, List.drop_of_length_le (by unfold psW; rw [List.length_map]; omega)]
          show posL ((n : Int) + ((y :: t).length : Int)) ((n : Int) + r.2 - 1 - ((n : Int) + ((y :: t).length : Int)) + 1).toNat ++ [] = [] ++ _
          rw [List.append_nil, List.nil_append, show ((n : Int) + r.2 - 1 - ((n : Int) + ((y :: t).length : Int)) + 1).toNat = r.2.toNat - (y :: t).length by omega]
        · rw [told', show stepR (toldR (y :: t)) r.1 r.2 = _ from step_other (r := (y.1, ((y :: t).length : Int))) e] at hx
          have h0 : ¬ (0 : Int) < ((y :: t).length : Int) - r.2 := by omega
          have h1 : ¬ ((y :: t).length : Int) - r.2 = 0 := by omega
          have hx : (if (0 : Int) < ((y :: t).length : Int) - r.2 then some (y.1, ((y :: t).length : Int) - r.2) else if ((y :: t).length : Int) - r.2 = 0 then none else some (r.1, -(((y :: t).length : Int) - r.2))) = some x := hx
          rw [if_neg h0, if_neg h1] at hx
          cases hx
          rfl
theorem all_runs : ∀ (rs : List Run) (ws : List Run) (R : List Rg) (n : Nat), Uni ws → flR R = psW ws → Gd R (n : Int) → (∀ r ∈ rs, 1 ≤ r.2) → Alt rs → (∀ l, R.getLast? = some l → l.2 = (n : Int) - 1 → ∀ x r, toldR ws = some x → rs.head? = some r → x.1 ≠ r.1) →
    flR (waR rs (toldR ws) (n : Int) R) = psW (plA ws n (itR rs)) ∧ ∃ b, Gd (waR rs (toldR ws) (n : Int) R) b
  | [], ws, R, n, _, fl, g, _, _, _ => ⟨fl, _, g⟩
  | r :: t, ws, R, n, u, fl, g, k, alt, bd => by
    have c1 := k r (List.mem_cons_self ..)
    obtain ⟨h1, h2, h3⟩ := one_run (r := r) u fl g c1 fun l hl hz x hx => bd l hl hz x r hx rfl
    have e : itR (r :: t) = List.replicate r.2.toNat r.1 ++ itR t := rfl
    have cn : ((n + r.2.toNat : Nat) : Int) = (n : Int) + r.2 := by omega
    have told' : toldR (plA ws n (List.replicate r.2.toNat r.1)) = stepR (toldR ws) r.1 r.2 := by
      have nn : PosO (toldR ws) := by
        intro x hx
        cases ws with
        | nil => cases hx
        | cons y t =>
          cases hx
          show 1 ≤ (((y :: t).length : Nat) : Int)
          rw [List.length_cons]
          omega
      obtain ⟨c, hc⟩ : ∃ c : Nat, r.2.toNat = c + 1 := ⟨r.2.toNat - 1, by omega⟩
      rw [told_plA _ _ _ u, hc, it_step c _ _ nn, show (c : Int) + 1 = r.2 by omega]
    have ih := all_runs t (plA ws n (List.replicate r.2.toNat r.1)) _ (n + r.2.toNat) (uni_plA _ _ _ u) h1 (by rw [cn]; exact h2) (fun x hx => k x (List.mem_cons_of_mem _ hx)) (fun i x y hx hy => alt (i + 1) x y hx hy) (fun l hl hz x r' hx hr' => by
      have ex := h3 l hl (by omega) x hx
      rw [ex]
      refine alt 0 r r' rfl ?_
      cases t with
      | nil => cases hr'
      | cons y s => exact hr')
    rw [cn, told'] at ih
    rw [e, plA_app, List.length_replicate]
    exact ih
/-! ### the parts up to a moment -/
theorem cut_none {e : Int} : ∀ (rs : List Run) (b : Int), 0 ≤ b → e ≤ b → (∀ r ∈ rs, 1 ≤ r.2) → cutR 0 e b rs = []
  | [], _, _, _, _ => rfl
  | r :: t, b, h0, h, k => by
    have c1 := k r (List.mem_cons_self ..)
    have hs : ¬ 0 < sizeR b 0 e r.2 := by
      unfold sizeR
      split <;> split <;> omega
    show pieceR b 0 e r ++ cutR 0 e (b + r.2) t = []
    rw [show pieceR b 0 e r = [] from if_neg hs, cut_none t (b + r.2) (by omega) (by omega) fun x hx => k x (List.mem_cons_of_mem _ hx)]
    rfl
theorem cut_kinds {e : Int} : ∀ (rs : List Run) (b : Int), 0 ≤ b → (∀ r ∈ rs, 1 ≤ r.2) → ∃ n, (cutR 0 e b rs).map (·.1) = (rs.map (·.1)).take n
  | [], _, _, _ => ⟨0, rfl⟩
  | r :: t, b, h0, k => by
    by_cases h : e ≤ b
    · exact ⟨0, by rw [cut_none (r :: t) b h0 h k]; rfl⟩
    · have c1 := k r (List.mem_cons_self ..)
      obtain ⟨n, hn⟩ := cut_kinds t (b + r.2) (by omega) fun x hx => k x (List.mem_cons_of_mem _ hx)
      have hs : 0 < sizeR b 0 e r.2 := by
        unfold sizeR
        split <;> split <;> omega
      refine ⟨n + 1, ?_⟩
      show (pieceR b 0 e r ++ cutR 0 e (b + r.2) t).map (·.1) = r.1 :: (t.map (·.1)).take n
      rw [show pieceR b 0 e r = [(r.1, sizeR b 0 e r.2)] from if_pos hs, List.map_append, hn]
      rfl
theorem alt_take {rs hs : List Run} {n : Nat} (h : hs.map (·.1) = (rs.map (·.1)).take n) (a : Alt rs) : Alt hs := by
  intro i x y hx hy
  have g : ∀ (j : Nat) (z : Run), hs[j]? = some z → ∃ w, rs[j]? = some w ∧ w.1 = z.1 := by
    intro j z hz
    have := congrArg (fun l : List Str => l[j]?) h
    simp only [List.getElem?_map, hz, List.getElem?_take] at this
    split at this
    · cases e : rs[j]? with
      | none => rw [e] at this; cases this
      | some w =>
        rw [e] at this
        exact ⟨w, rfl, (Option.some.inj this).symm⟩
    · cases this
  obtain ⟨x', h1, e1⟩ := g i x hx
  obtain ⟨y', h2, e2⟩ := g (i + 1) y hy
  rw [← e1, ← e2]
  exact a i x' y' h1 h2
/-- the ranges at a multiplied moment -/
theorem whole_wa {rs : List Run} {t : Int} {m : Nat} (ht : 0 < t) (k : ∀ r ∈ rs, 1 ≤ r.2) (a : Alt rs) : waR (cutR 0 ((m : Int) * t) 0 (scR t rs)) none 0 [] = rgR t (psW (plA [] 0 ((itR rs).take m))) := by
  have ec := cut_sc (s := 0) (e := (m : Int)) ht rs 0
  rw [Int.zero_mul] at ec
  have es := waR_sc ht (cutR 0 (m : Int) 0 rs) none 0 []
  rw [Int.zero_mul] at es
  obtain ⟨n, hn⟩ := cut_kinds (e := (m : Int)) rs 0 (Int.le_refl _) k
  obtain ⟨h1, b, h2⟩ := all_runs (cutR 0 (m : Int) 0 rs) [] [] 0 (fun x hx => by cases hx) rfl trivial cutR_pos (alt_take hn a) (fun l hl => by cases hl)
  have h1 : flR (waR (cutR 0 (m : Int) 0 rs) none 0 []) = psW (plA [] 0 (itR (cutR 0 (m : Int) 0 rs))) := h1
  have h2 : Gd (waR (cutR 0 (m : Int) 0 rs) none 0 []) b := h2
  rw [cut_items _ _ _ (Int.le_refl _) k, Int.sub_zero, Int.toNat_natCast] at h1
  have rf := rg_flat _ [] h2 (fun l p hl => by cases hl)
  rw [h1, List.nil_append] at rf
  rw [ec, rgR_sc ht]
  unfold rgR
  rw [rf]
  exact es
end UP

set_option Elab.async false
set_option linter.all false
set_option maxRecDepth 100000
set_option maxHeartbeats 4000000
namespace UP
open PySem PySem.Spec PyProof.Rows L2
/-! ### lists of ranges -/
def Rngs (H : Hp) (a : Addr) (R : List Rg) : Prop := ∃ xs, H a = some (.lst xs) ∧ Paired (PV H) xs R
theorem pvs_same {H H' : Hp} {xs : List V} {R : List Rg} (s : Same H H') (h : Paired (PV H) xs R) : Paired (PV H') xs R := Paired.imp (fun _ _ => PV.same s) h
theorem pvs_grow {H : Hp} {D : Addr} {acc acc' xs : List V} {R : List Rg} (hD : H D = some (.lst acc)) (h : Paired (PV H) xs R) : Paired (PV (upd H D (.lst acc'))) xs R := Paired.imp (fun _ _ => PV.grow hD) h
theorem Rngs.same {H H' : Hp} {a : Addr} {R : List Rg} (s : Same H H') (h : Rngs H a R) : Rngs H' a R := by
  obtain ⟨xs, hx, hp⟩ := h
  exact ⟨xs, s _ _ hx, pvs_same s hp⟩
theorem wfP_len (p : Rg) (n : Int) : (wfP p n).length ≤ 1 := by
  unfold wfP
  split <;> simp
theorem wfR_len : ∀ (R : List Rg) (n : Int), (wfR R n).length ≤ R.length
  | [], _ => Nat.le_refl _
  | p :: t, n => by
    have h1 := wfP_len p n
    have h2 := wfR_len t (n - rmR p n)
    show (wfP p n ++ wfR t (n - rmR p n)).length ≤ _
    rw [List.length_append, List.length_cons]
    omega
theorem adP_len (st : Option Run) (b : Int) (r : Run) : (adP st b r).length ≤ 1 := by
  unfold adP
  split <;> simp
theorem waR_len : ∀ (l : List Run) (st : Option Run) (b : Int) (R : List Rg), (waR l st b R).length ≤ R.length + l.length
  | [], _, _, _ => Nat.le_refl _
  | r :: t, st, b, R => by
    have h1 := waR_len t (stepR st r.1 r.2) (b + r.2) (wfR R (leavR st r.1 r.2) ++ adP st b r)
    have h2 := wfR_len R (leavR st r.1 r.2)
    have h3 := adP_len st b r
    rw [List.length_append] at h1
    show (waR t (stepR st r.1 r.2) (b + r.2) (wfR R (leavR st r.1 r.2) ++ adP st b r)).length ≤ _
    rw [List.length_cons]
    omega
theorem paired_snocR {α β : Type} {F : α → β → Prop} : ∀ {xs : List α} (l : List β) (y : β), Paired F xs (l ++ [y]) → ∃ xs0 x, xs = xs0 ++ [x] ∧ Paired F xs0 l ∧ F x y
  | _, [], y, h => by
    cases h with
    | cons h1 h2 =>
      cases h2
      exact ⟨[], _, rfl, .nil, h1⟩
  | _, z :: l, y, h => by
    cases h with
    | cons h1 h2 =>
      obtain ⟨xs0, x, e, h3, h4⟩ := paired_snocR l y h2
      exact ⟨_ :: xs0, x, by rw [e]; rfl, .cons h1 h3, h4⟩
theorem Gd.gap {b : Int} {p : Rg} : ∀ {R : List Rg}, Gd (R ++ [p]) b → ∀ l, R.getLast? = some l → l.2 + 1 < p.1
  | [], _, l, h => by cases h
  | [q], g, l, h => by
    have e : q = l := Option.some.inj h
    rw [← e]
    exact g.2.2.1 p rfl
  | q :: r :: t, g, l, h => by
    rw [List.getLast?_cons_cons] at h
    exact Gd.gap (R := r :: t) g.2.2.2 l h
/-- a new range never touches the last one -/
theorem no_touch {cs : List Run} (pos : ∀ r ∈ cs, 1 ≤ r.2) (alt : Alt cs) {i : Nat} {r : Run} (er : cs[i]? = some r) : leavR (stR (cs.take i) none) r.1 r.2 < r.2 → ∀ l, (wfR (waR (cs.take i) none 0 []) (leavR (stR (cs.take i) none) r.1 r.2)).getLast? = some l → l.2 + 1 ≠ lenR (cs.take i) + leavR (stR (cs.take i) none) r.1 r.2 := by
  intro lt l hl z
  obtain ⟨_, b, g⟩ := all_runs (cs.take (i + 1)) [] [] 0 (fun x hx => by cases hx) rfl trivial (fun x hx => pos x (List.mem_of_mem_take hx)) (alt_take (n := i + 1) List.map_take alt) (fun l hl => by cases hl)
  have g : Gd (waR (cs.take (i + 1)) none 0 []) b := g
  rw [take_snoc er, waR_snoc, Int.zero_add, show adP (stR (cs.take i) none) (lenR (cs.take i)) r = [_] from if_pos lt] at g
  have := Gd.gap g l hl
  have this : l.2 + 1 < lenR (cs.take i) + leavR (stR (cs.take i) none) r.1 r.2 := this
  omega
section
variable {P : Program} {w : World} {K : PySem.W.Frag} {mg : Str → Option Value} {base : Heap}
/-! without_first: slots 0:ranges 1:number 2:kept 3:first 4:last 5:removed -/
abbrev s_without_first : Stmt := topS 36
theorem sc_without_first : FnScope ["ranges", "number", "kept", "first", "last", "removed"] ["ranges", "number"] (defScope s_without_first) := ⟨rfl, rfl, rfl, by decide +kernel, rfl, by decide +kernel, by decide +kernel⟩
def sp_without_first : Sp := fun vs H Q _ => ∃ (a : Addr) (R : List Rg) (n : Int), vs = [.ref a, .int n] ∧ Rngs H a R ∧ R.length ≤ 100000 ∧ ∀ H' p, Same H H' → H p = none → Rngs H' p (wfR R n) → Q (.ref p) H'
theorem ok_without_first (D : Df K mg "without_first" s_without_first) (T : Tx mg) : Has P w K mg base 1 "without_first" ["ranges", "number"] sp_without_first := by
  refine has_of D sc_without_first (fun _ _ _ _ _ _ us hl => match us, hl with | [_, _], _ => rfl) (fun vs H Q E h => ?_) (fun f cdv A outer s₀ H vs Q E hr h => ?_)
  · obtain ⟨a, R, n, rfl, _⟩ := h
    rfl
  · obtain ⟨a, R, n, rfl, ⟨xs, hx, hp⟩, l4, q⟩ := h
    have lx : xs.length = R.length := Paired.len hp
    refine ⟨_, (pss_cons (ps_set (i := 2) sc_without_first.nd rfl (by first | exact Or.inl rfl | exact Or.inr rfl) (pe_lst pa_nil))
    (pss_cons (ps_for PassesOwn.never rfl (pi_list (pv 0)) (pg_tup rfl (pgs_cons (pg_name (i := 3) sc_without_first.nd rfl (by first | exact Or.inl rfl | exact Or.inr rfl)) (pgs_cons (pg_name (i := 4) sc_without_first.nd rfl (by first | exact Or.inl rfl | exact Or.inr rfl)) pgs_nil)))
      (pss_cons (ps_set (i := 5) sc_without_first.nd rfl (by first | exact Or.inl rfl | exact Or.inr rfl) (pe_callB (call_min2 rfl) (by rfl) T.n_min (by decide +kernel) (pa_cons (pv 1) (pa_cons (pe_op op_add (pe_op op_sub (pv 4) (pv 3)) pe_int) pa_nil))))
    (C8.pss_cut (ps_if (pt_cmpR op_le (pe_op op_add (pv 3) (pv 5)) (pv 4) (nomark _)) (pss_one (ps_expr (pe_bm PySem.F.plainAttrs_list PySem.F.slot_list_append PySem.F.type_list_append mt_append (pv 2) (pa_cons (pe_tup (pa_cons (pe_op op_add (pv 3) (pv 5)) (pa_cons (pv 4) pa_nil))) pa_nil)))) pss_nil)
    (pss_one (ps_aug (i := 1) sc_without_first.nd rfl (by first | exact Or.inl rfl | exact Or.inr rfl) (pv 5) ip_sub)))))
    (pss_one (ps_ret (pv 2))))), ?_⟩
    refine ⟨Nat.zero_le _, fun p np => ?_⟩
    refine ⟨_, rfl, a, rfl, ⟨xs, .of (same_upd np _ _ hx)⟩, for_list (K := K) (a := a) (xs := xs) (fun i σ H' => ∃ b y3 y4 y5, b = wfN (R.take i) n ∧ σ = [some (.ref a), some (.int b), some (.ref p), y3, y4, y5] ∧ Same H H' ∧ ∃ ys, H' p = some (.lst ys) ∧ Paired (PV H') ys (wfR (R.take i) n))
      ⟨n, none, none, none, rfl, rfl, same_upd np, [], upd_same, .nil⟩ (fun i σ H' _ hP => ?_) (fun i x σ H1 ex hP => ?_) (fun σ H1 hP => ?_)⟩
    · obtain ⟨_, _, _, _, _, _, sm, _⟩ := hP
      exact .of (sm _ _ hx)
    · obtain ⟨b, y3, y4, y5, rfl, rfl, sm, ys, hL, hy⟩ := hP
      obtain ⟨r, er, hr1⟩ := Paired.at hp ex
      have hi : i < xs.length := (List.getElem?_eq_some_iff.mp ex).1
      obtain ⟨t, rfl, ht⟩ := PV.same sm hr1
      have el : wfN (R.take (i + 1)) n = wfN (R.take i) n - rmR r (wfN (R.take i) n) := by rw [take_snoc er, wfN_snoc]
      have ec : wfR (R.take (i + 1)) n = wfR (R.take i) n ++ wfP r (wfN (R.take i) n) := by rw [take_snoc er, wfR_snoc]
      refine ⟨t, _, rfl, .of ht, rfl, _, _, rfl, _, _, rfl, rfl, ?_⟩
      refine ⟨_, rfl, _, rfl, _, rfl, _, _, rfl, rfl, _, _, rfl, rfl, _, _, rfl, ?_⟩
      refine ⟨fun σ' H' => σ' = [some (.ref a), some (.int (wfN (R.take i) n)), some (.ref p), some (.int r.1), some (.int r.2), some (.int (rmR r (wfN (R.take i) n)))] ∧ Same H H' ∧ ∃ ys, H' p = some (.lst ys) ∧ Paired (PV H') ys (wfR (R.take (i + 1)) n), ?_, fun σ' H5 hM => ?_⟩
      · refine ⟨_, rfl, _, rfl, _, _, rfl, rfl, _, rfl, _, _, rfl, rfl, _, rfl, ite2 (fun e => ?_) (fun e => ?_)⟩
        · have e : r.1 + rmR r (wfN (R.take i) n) ≤ r.2 := of_decide_eq_true e
          have epc : wfP r (wfN (R.take i) n) = [(r.1 + rmR r (wfN (R.take i) n), r.2)] := if_pos e
          refine ⟨_, rfl, .inl ⟨rfl, _, SqL.of hL⟩, _, rfl, _, rfl, _, _, rfl, rfl, _, rfl, (by show 2 ≤ sizeLine; decide), fun u nn => ⟨p, _, _, rfl, rfl, same_upd nn _ _ hL, ?_, ?_⟩⟩
          · have h1 := Paired.len hy
            have h2 := wfR_len (R.take i) n
            rw [List.length_take] at h2
            exact small (by omega)
          · refine ⟨rfl, same_grow np (sm.trans (same_upd nn)), _, upd_same, ?_⟩
            rw [ec, epc]
            exact Paired.app (pvs_grow (same_upd nn _ _ hL) (pvs_same (same_upd nn) hy)) (.cons (PV.grow (same_upd nn _ _ hL) ⟨_, rfl, upd_same⟩) .nil)
        · have e : ¬ r.1 + rmR r (wfN (R.take i) n) ≤ r.2 := fun z => e (decide_eq_true z)
          have epc : wfP r (wfN (R.take i) n) = [] := if_neg e
          refine ⟨rfl, sm, _, hL, ?_⟩
          rw [ec, epc, List.append_nil]
          exact hy
      · obtain ⟨rfl, s5, ys5, hL5, hy5⟩ := hM
        exact ⟨_, rfl, _, rfl, _, _, rfl, rfl, _, _, _, _, el.symm, rfl, s5, ys5, hL5, hy5⟩
    · obtain ⟨b, y3, y4, y5, rfl, rfl, sm, ys, hL, hy⟩ := hP
      rw [lx, List.take_length] at hy
      exact ⟨_, rfl, q H1 p sm np ⟨ys, hL, hy⟩⟩
def adQ (b c n : Int) : List Rg := if n < c then [(b + n, b + c - 1)] else []
end
end UP

set_option Elab.async false
set_option linter.all false
set_option maxRecDepth 100000
set_option maxHeartbeats 4000000
namespace UP
open PySem PySem.Spec PyProof.Rows L2
/-! ### blocks of pairs -/
theorem paired_snoc {α β : Type} {F : α → β → Prop} : ∀ {xs : List α} (l : List β) (y : β), Paired F xs (l ++ [y]) → ∃ xs0 x, xs = xs0 ++ [x] ∧ Paired F xs0 l ∧ F x y
  | _, [], y, h => by
    cases h with
    | cons h1 h2 =>
      cases h2
      exact ⟨[], _, rfl, .nil, h1⟩
  | _, z :: l, y, h => by
    cases h with
    | cons h1 h2 =>
      obtain ⟨xs0, x, e, h3, h4⟩ := paired_snoc l y h2
      exact ⟨_ :: xs0, x, by rw [e]; rfl, .cons h1 h3, h4⟩
theorem set_lastX {α : Type} : ∀ (l : List α) (x y : α), (l ++ [x]).set l.length y = l ++ [y]
  | [], _, _ => rfl
  | z :: l, x, y => congrArg (z :: ·) (set_lastX l x y)
theorem ixN_lastX {n : Nat} : ixN (n + 1) (-1) = some n := by
  unfold ixN
  simp
  omega
abbrev Blk := Int × Int × Int
def BV (H : Hp) (v : V) (b : Blk) : Prop := ∃ t, v = .ref t ∧ H t = some (.tup [.int b.1, .int b.2.1, .int b.2.2])
theorem BV.same {H H' : Hp} {v : V} {p : Blk} (s : Same H H') (h : BV H v p) : BV H' v p := by
  obtain ⟨t, e, h⟩ := h
  exact ⟨t, e, s _ _ h⟩
theorem BV.grow {H : Hp} {D : Addr} {acc acc' : List V} {v : V} {p : Blk} (hD : H D = some (.lst acc)) (h : BV H v p) : BV (upd H D (.lst acc')) v p := by
  obtain ⟨t, e, h⟩ := h
  refine ⟨t, e, ?_⟩
  rw [upd_ne (ne_of h hD (by intro q; cases q))]
  exact h
theorem BV.but {H H' : Hp} {D : Addr} {acc : List V} {v : V} {p : Blk} (hD : H D = some (.lst acc)) (s : But D H H') (h : BV H v p) : BV H' v p := by
  obtain ⟨t, e, h⟩ := h
  exact ⟨t, e, s _ _ (ne_of h hD (by intro q; cases q)) h⟩
def Blks (H : Hp) (a : Addr) (B : List Blk) : Prop := ∃ xs, H a = some (.lst xs) ∧ Paired (BV H) xs B
theorem bvs_same {H H' : Hp} {xs : List V} {R : List Blk} (s : Same H H') (h : Paired (BV H) xs R) : Paired (BV H') xs R := Paired.imp (fun _ _ => BV.same s) h
theorem bvs_grow {H : Hp} {D : Addr} {acc acc' xs : List V} {R : List Blk} (hD : H D = some (.lst acc)) (h : Paired (BV H) xs R) : Paired (BV (upd H D (.lst acc'))) xs R := Paired.imp (fun _ _ => BV.grow hD) h
theorem Blks.same {H H' : Hp} {a : Addr} {R : List Blk} (s : Same H H') (h : Blks H a R) : Blks H' a R := by
  obtain ⟨xs, hx, hp⟩ := h
  exact ⟨xs, s _ _ hx, bvs_same s hp⟩
def brP (p : Rg) (b n : Int) : List Blk := if 0 < rmR p n then [(p.1, b, rmR p n)] else []
def brR : List Rg → Int → Int → List Blk
  | [], _, _ => []
  | p :: t, b, n => brP p b n ++ brR t (b + rmR p n) (n - rmR p n)
theorem brR_snoc : ∀ (l : List Rg) (p : Rg) (b n : Int), brR (l ++ [p]) b n = brR l b n ++ brP p (b + (n - wfN l n)) (wfN l n)
  | [], p, b, n => by
    show brP p b n ++ [] = [] ++ brP p (b + (n - n)) n
    rw [List.append_nil, List.nil_append, show b + (n - n) = b by omega]
  | x :: t, p, b, n => by
    show brP x b n ++ brR (t ++ [p]) (b + rmR x n) (n - rmR x n) = (brP x b n ++ brR t (b + rmR x n) (n - rmR x n)) ++ brP p (b + (n - wfN t (n - rmR x n))) (wfN t (n - rmR x n))
    rw [brR_snoc t, List.append_assoc, show b + rmR x n + (n - rmR x n - wfN t (n - rmR x n)) = b + (n - wfN t (n - rmR x n)) by omega]
theorem brP_len (p : Rg) (b n : Int) : (brP p b n).length ≤ 1 := by
  unfold brP
  split <;> simp
theorem brR_len : ∀ (R : List Rg) (b n : Int), (brR R b n).length ≤ R.length
  | [], _, _ => Nat.le_refl _
  | p :: t, b, n => by
    have h1 := brP_len p b n
    have h2 := brR_len t (b + rmR p n) (n - rmR p n)
    show (brP p b n ++ brR t (b + rmR p n) (n - rmR p n)).length ≤ _
    rw [List.length_append, List.length_cons]
    omega
def addB (B : List Blk) (x : Blk) : List Blk := match B.getLast? with
  | none => B ++ [x]
  | some l => if l.1 + l.2.2 = x.1 ∧ l.2.1 + l.2.2 = x.2.1 then B.dropLast ++ [(l.1, l.2.1, l.2.2 + x.2.2)] else B ++ [x]
theorem addB_len (B : List Blk) (x : Blk) : (addB B x).length ≤ B.length + 1 := by
  unfold addB
  split
  · rw [List.length_append]
    exact Nat.le_refl _
  · split
    · rw [List.length_append, List.length_dropLast]
      simp only [List.length_cons, List.length_nil]
      omega
    · rw [List.length_append]
      exact Nat.le_refl _
def addsB (B xs : List Blk) : List Blk := xs.foldl addB B
theorem addsB_snoc (B xs : List Blk) (x : Blk) : addsB B (xs ++ [x]) = addB (addsB B xs) x := by
  unfold addsB
  rw [List.foldl_append]
  rfl
theorem addsB_len : ∀ (xs B : List Blk), (addsB B xs).length ≤ B.length + xs.length
  | [], B => Nat.le_refl _
  | x :: t, B => by
    have h1 := addsB_len t (addB B x)
    have h2 := addB_len B x
    show (addsB (addB B x) t).length ≤ _
    rw [List.length_cons]
    omega
def boR : List Run → Option Run → Int → List Rg → List Blk → List Blk
  | [], _, _, _, B => B
  | r :: t, st, b, R, B => boR t (stepR st r.1 r.2) (b + r.2) (wfR R (leavR st r.1 r.2) ++ adP st b r) (addsB B (brR R b (leavR st r.1 r.2)))
theorem boR_snoc : ∀ (l : List Run) (r : Run) (st : Option Run) (b : Int) (R : List Rg) (B : List Blk), boR (l ++ [r]) st b R B = addsB (boR l st b R B) (brR (waR l st b R) (b + lenR l) (leavR (stR l st) r.1 r.2))
  | [], r, st, b, R, B => by
    show addsB B (brR R b (leavR st r.1 r.2)) = addsB B (brR R (b + lenR []) (leavR st r.1 r.2))
    rw [lenR_nil, Int.add_zero]
  | x :: t, r, st, b, R, B => by
    show boR (t ++ [r]) (stepR st x.1 x.2) (b + x.2) (wfR R (leavR st x.1 x.2) ++ adP st b x) (addsB B (brR R b (leavR st x.1 x.2))) = addsB (boR t (stepR st x.1 x.2) (b + x.2) (wfR R (leavR st x.1 x.2) ++ adP st b x) (addsB B (brR R b (leavR st x.1 x.2)))) (brR (waR t (stepR st x.1 x.2) (b + x.2) (wfR R (leavR st x.1 x.2) ++ adP st b x)) (b + lenR (x :: t)) (leavR (stR (x :: t) st) r.1 r.2))
    rw [boR_snoc t, stR_cons, lenR_cons, Int.add_assoc]
theorem boR_len : ∀ (l : List Run) (st : Option Run) (b : Int) (R : List Rg) (B : List Blk), (boR l st b R B).length ≤ B.length + l.length * (R.length + l.length)
  | [], _, _, _, _ => by
    show _ ≤ _ + 0 * _
    rw [Nat.zero_mul]
    exact Nat.le_refl _
  | r :: t, st, b, R, B => by
    have h1 := boR_len t (stepR st r.1 r.2) (b + r.2) (wfR R (leavR st r.1 r.2) ++ adP st b r) (addsB B (brR R b (leavR st r.1 r.2)))
    have h2 := addsB_len (brR R b (leavR st r.1 r.2)) B
    have h3 := brR_len R b (leavR st r.1 r.2)
    have h4 := wfR_len R (leavR st r.1 r.2)
    have h5 := adP_len st b r
    rw [List.length_append] at h1
    show (boR t (stepR st r.1 r.2) (b + r.2) (wfR R (leavR st r.1 r.2) ++ adP st b r) (addsB B (brR R b (leavR st r.1 r.2)))).length ≤ _
    rw [List.length_cons, Nat.succ_mul]
    have h6 : t.length * ((wfR R (leavR st r.1 r.2)).length + (adP st b r).length + t.length) ≤ t.length * (R.length + (t.length + 1)) := Nat.mul_le_mul_left _ (by omega)
    omega
theorem shaped_not {B : List Blk} : B = [] ∨ ∃ B0 l, B = B0 ++ [l] := by
  rcases List.eq_nil_or_concat B with e | ⟨B0, l, e⟩
  · exact .inl e
  · exact .inr ⟨B0, l, by rw [e, List.concat_eq_append]⟩
section
variable {P : Program} {w : World} {K : PySem.W.Frag} {mg : Str → Option Value} {base : Heap}
/-! blocks_of_run: slots 0:ranges 1:start 2:leaving 3:blocks 4:first 5:last 6:size -/
abbrev s_blocks_of_run : Stmt := topS 39
theorem sc_blocks_of_run : FnScope ["ranges", "start", "leaving", "blocks", "first", "last", "size"] ["ranges", "start", "leaving"] (defScope s_blocks_of_run) := ⟨rfl, rfl, rfl, by decide +kernel, rfl, by decide +kernel, by decide +kernel⟩
def sp_blocks_of_run : Sp := fun vs H Q _ => ∃ (a : Addr) (R : List Rg) (b n : Int), vs = [.ref a, .int b, .int n] ∧ Rngs H a R ∧ R.length ≤ 100000 ∧ ∀ H' p, Same H H' → H p = none → Blks H' p (brR R b n) → Q (.ref p) H'
theorem ok_blocks_of_run (D : Df K mg "blocks_of_run" s_blocks_of_run) (T : Tx mg) : Has P w K mg base 1 "blocks_of_run" ["ranges", "start", "leaving"] sp_blocks_of_run := by
  refine has_of D sc_blocks_of_run (fun _ _ _ _ _ _ us hl => match us, hl with | [_, _, _], _ => rfl) (fun vs H Q E h => ?_) (fun f cdv A outer s₀ H vs Q E hr h => ?_)
  · obtain ⟨a, R, b, n, rfl, _⟩ := h
    rfl
  · obtain ⟨a, R, b, n, rfl, ⟨xs, hx, hp⟩, l4, q⟩ := h
    have lx : xs.length = R.length := Paired.len hp
    refine ⟨_, (pss_cons (ps_set (i := 3) sc_blocks_of_run.nd rfl (by first | exact Or.inl rfl | exact Or.inr rfl) (pe_lst pa_nil))
    (pss_cons (ps_for PassesOwn.never rfl (pi_list (pv 0)) (pg_tup rfl (pgs_cons (pg_name (i := 4) sc_blocks_of_run.nd rfl (by first | exact Or.inl rfl | exact Or.inr rfl)) (pgs_cons (pg_name (i := 5) sc_blocks_of_run.nd rfl (by first | exact Or.inl rfl | exact Or.inr rfl)) pgs_nil)))
      (pss_cons (ps_set (i := 6) sc_blocks_of_run.nd rfl (by first | exact Or.inl rfl | exact Or.inr rfl) (pe_callB (call_min2 rfl) (by rfl) T.n_min (by decide +kernel) (pa_cons (pv 2) (pa_cons (pe_op op_add (pe_op op_sub (pv 5) (pv 4)) pe_int) pa_nil))))
    (C8.pss_cut (ps_if (pt_cmpR op_gt (pv 6) pe_int (nomark _)) (pss_one (ps_expr (pe_bm PySem.F.plainAttrs_list PySem.F.slot_list_append PySem.F.type_list_append mt_append (pv 3) (pa_cons (pe_tup (pa_cons (pv 4) (pa_cons (pv 1) (pa_cons (pv 6) pa_nil)))) pa_nil)))) pss_nil)
    (pss_cons (ps_aug (i := 1) sc_blocks_of_run.nd rfl (by first | exact Or.inl rfl | exact Or.inr rfl) (pv 6) ip_add)
    (pss_one (ps_aug (i := 2) sc_blocks_of_run.nd rfl (by first | exact Or.inl rfl | exact Or.inr rfl) (pv 6) ip_sub))))))
    (pss_one (ps_ret (pv 3))))), ?_⟩
    refine ⟨Nat.zero_le _, fun p np => ?_⟩
    refine ⟨_, rfl, a, rfl, ⟨xs, .of (same_upd np _ _ hx)⟩, for_list (K := K) (a := a) (xs := xs) (fun i σ H' => ∃ c m y4 y5 y6, m = wfN (R.take i) n ∧ c = b + (n - wfN (R.take i) n) ∧ σ = [some (.ref a), some (.int c), some (.int m), some (.ref p), y4, y5, y6] ∧ Same H H' ∧ ∃ ys, H' p = some (.lst ys) ∧ Paired (BV H') ys (brR (R.take i) b n))
      ⟨b, n, none, none, none, rfl, (by show b = b + (n - n); omega), rfl, same_upd np, [], upd_same, .nil⟩ (fun i σ H' _ hP => ?_) (fun i x σ H1 ex hP => ?_) (fun σ H1 hP => ?_)⟩
    · obtain ⟨_, _, _, _, _, _, _, _, sm, _⟩ := hP
      exact .of (sm _ _ hx)
    · obtain ⟨c, m, y4, y5, y6, em, ecc, rfl, sm, ys, hL, hy⟩ := hP
      obtain ⟨r, er, hr1⟩ := Paired.at hp ex
      have hi : i < xs.length := (List.getElem?_eq_some_iff.mp ex).1
      obtain ⟨t, rfl, ht⟩ := PV.same sm hr1
      have el : wfN (R.take (i + 1)) n = m - rmR r m := by rw [take_snoc er, wfN_snoc, em]
      have ec : brR (R.take (i + 1)) b n = brR (R.take i) b n ++ brP r c m := by rw [take_snoc er, brR_snoc, ecc, em]
      refine ⟨t, _, rfl, .of ht, rfl, _, _, rfl, _, _, rfl, rfl, ?_⟩
      refine ⟨_, rfl, _, rfl, _, rfl, _, _, rfl, rfl, _, _, rfl, rfl, _, _, rfl, ?_⟩
      refine ⟨fun σ' H' => σ' = [some (.ref a), some (.int c), some (.int m), some (.ref p), some (.int r.1), some (.int r.2), some (.int (rmR r m))] ∧ Same H H' ∧ ∃ ys, H' p = some (.lst ys) ∧ Paired (BV H') ys (brR (R.take (i + 1)) b n), ?_, fun σ' H5 hM => ?_⟩
      · refine ⟨_, rfl, _, _, rfl, rfl, _, rfl, ite2 (fun e => ?_) (fun e => ?_)⟩
        · have e : 0 < rmR r m := of_decide_eq_true e
          have epc : brP r c m = [(r.1, c, rmR r m)] := if_pos e
          refine ⟨_, rfl, .inl ⟨rfl, _, SqL.of hL⟩, _, rfl, _, rfl, _, rfl, (by show 3 ≤ sizeLine; decide), fun u nn => ⟨p, _, _, rfl, rfl, same_upd nn _ _ hL, ?_, ?_⟩⟩
          · have h1 := Paired.len hy
            have h2 := brR_len (R.take i) b n
            rw [List.length_take] at h2
            exact small (by omega)
          · refine ⟨rfl, same_grow np (sm.trans (same_upd nn)), _, upd_same, ?_⟩
            rw [ec, epc]
            exact Paired.app (bvs_grow (same_upd nn _ _ hL) (bvs_same (same_upd nn) hy)) (.cons (BV.grow (same_upd nn _ _ hL) ⟨_, rfl, upd_same⟩) .nil)
        · have e : ¬ 0 < rmR r m := fun z => e (decide_eq_true z)
          have epc : brP r c m = [] := if_neg e
          refine ⟨rfl, sm, _, hL, ?_⟩
          rw [ec, epc, List.append_nil]
          exact hy
      · obtain ⟨rfl, s5, ys5, hL5, hy5⟩ := hM
        exact ⟨_, rfl, _, rfl, _, _, rfl, rfl, _, rfl, _, rfl, _, _, rfl, rfl, _, _, _, _, _, el.symm, (by show c + rmR r m = b + (n - wfN (R.take (i + 1)) n); rw [el]; omega), rfl, s5, ys5, hL5, hy5⟩
    · obtain ⟨c, m, y3, y4, y5, em, ecc, rfl, sm, ys, hL, hy⟩ := hP
      rw [lx, List.take_length] at hy
      exact ⟨_, rfl, q H1 p sm np ⟨ys, hL, hy⟩⟩
end
end UP

set_option Elab.async false
set_option linter.all false
set_option maxRecDepth 100000
set_option maxHeartbeats 4000000
namespace UP
open PySem PySem.Spec PyProof.Rows L2
def pgR : List Blk → Int → Option Int
  | [], _ => none
  | x :: t, p => if x.1 ≤ p ∧ p < x.1 + x.2.2 then some (x.2.1 + p - x.1) else if x.2.1 ≤ p ∧ p < x.2.1 + x.2.2 then some (x.1 + p - x.2.1) else pgR t p
def oI : Option Int → V
  | none => .non
  | some i => .int i
theorem drop_at {α : Type} {l : List α} {i : Nat} {x : α} (h : l[i]? = some x) : l.drop i = x :: l.drop (i + 1) := by
  obtain ⟨hi, e⟩ := List.getElem?_eq_some_iff.mp h
  rw [List.drop_eq_getElem_cons hi, e]
def blR (rs : List Run) : List Blk := boR rs none 0 [] []
theorem Rngs.butB {H H' : Hp} {D a : Addr} {acc : List V} {R : List Rg} (hD : H D = some (.lst acc)) (n : a ≠ D) (s : But D H H') (h : Rngs H a R) : Rngs H' a R := by
  obtain ⟨xs, hx, hp⟩ := h
  refine ⟨xs, s _ _ n hx, Paired.imp (fun v p z => ?_) hp⟩
  obtain ⟨t, e, ht⟩ := z
  exact ⟨t, e, s _ _ (ne_of ht hD (by intro q; cases q)) ht⟩
theorem Runs.butB {H H' : Hp} {D a : Addr} {acc : List V} {R : List Run} (hD : H D = some (.lst acc)) (n : a ≠ D) (s : But D H H') (h : Runs H a R) : Runs H' a R := by
  obtain ⟨xs, hx, hp⟩ := h
  refine ⟨xs, s _ _ n hx, Paired.imp (fun v p z => ?_) hp⟩
  obtain ⟨t, e, ht⟩ := z
  exact ⟨t, e, s _ _ (ne_of ht hD (by intro q; cases q)) ht⟩
theorem StV.butB {H H' : Hp} {D : Addr} {acc : List V} {v : V} {st : Option Run} (hD : H D = some (.lst acc)) (s : But D H H') (h : StV H v st) : StV H' v st := by
  cases st with
  | none => exact h
  | some r =>
    obtain ⟨t, e, ht⟩ := h
    exact ⟨t, e, s _ _ (ne_of ht hD (by intro q; cases q)) ht⟩
/-- what was there before stays, whatever is done to a list that is new -/
theorem Same.butB {H H1 H' : Hp} {D : Addr} (n : H D = none) (s : Same H H1) (b : But D H1 H') : Same H H' := fun a o e => b _ _ (ne_of_none e n) (s _ _ e)
section
variable {P : Program} {w : World} {K : PySem.W.Frag} {mg : Str → Option Value} {base : Heap}
/-! partner_in: slots 0:blocks 1:position 2:first 3:second 4:count -/
abbrev s_partner_in : Stmt := topS 40
theorem sc_partner_in : FnScope ["blocks", "position", "first", "second", "count"] ["blocks", "position"] (defScope s_partner_in) := ⟨rfl, rfl, rfl, by decide +kernel, rfl, by decide +kernel, by decide +kernel⟩
def sp_partner_in : Sp := fun vs H Q _ => ∃ (a : Addr) (B : List Blk) (m : Int), vs = [.ref a, .int m] ∧ Blks H a B ∧ Q (oI (pgR B m)) H
theorem ok_partner_in (D : Df K mg "partner_in" s_partner_in) : Has P w K mg base 1 "partner_in" ["blocks", "position"] sp_partner_in := by
  refine has_of D sc_partner_in (fun _ _ _ _ _ _ us hl => match us, hl with | [_, _], _ => rfl) (fun vs H Q E h => ?_) (fun f cdv A outer s₀ H vs Q E hr h => ?_)
  · obtain ⟨a, R, n, rfl, _⟩ := h
    rfl
  · obtain ⟨a, B, m, rfl, ⟨xs, hx, hpr⟩, q⟩ := h
    refine ⟨_, (pss_cons (ps_for PassesOwn.never rfl (pi_list (pv 0)) (pg_tup rfl (pgs_cons (pg_name (i := 2) sc_partner_in.nd rfl (by first | exact Or.inl rfl | exact Or.inr rfl)) (pgs_cons (pg_name (i := 3) sc_partner_in.nd rfl (by first | exact Or.inl rfl | exact Or.inr rfl)) (pgs_cons (pg_name (i := 4) sc_partner_in.nd rfl (by first | exact Or.inl rfl | exact Or.inr rfl)) pgs_nil))))
      (C8.pss_cut (ps_if (pt_chain op_le op_lt (pv 2) (pv 1) (pe_op op_add (pv 2) (pv 4))) (pss_one (ps_ret (pe_op op_sub (pe_op op_add (pv 3) (pv 1)) (pv 2)))) pss_nil)
    (pss_one (ps_if (pt_chain op_le op_lt (pv 3) (pv 1) (pe_op op_add (pv 3) (pv 4))) (pss_one (ps_ret (pe_op op_sub (pe_op op_add (pv 2) (pv 1)) (pv 3)))) pss_nil))))
    (pss_one (ps_ret pe_non))), ?_⟩
    have lx : xs.length = B.length := Paired.len hpr
    refine ⟨_, rfl, a, rfl, ⟨xs, .of hx⟩, for_list (K := K) (a := a) (xs := xs) (fun i σ H' => ∃ y3 y4 y5, σ = [some (.ref a), some (.int m), y3, y4, y5] ∧ H' = H ∧ pgR B m = pgR (B.drop i) m)
      ⟨none, none, none, rfl, rfl, rfl⟩ (fun i σ H' _ hP => ?_) (fun i x σ H4 ex hP => ?_) (fun σ H4 hP => ?_)⟩
    · obtain ⟨_, _, _, _, rfl, _⟩ := hP
      exact .of hx
    · obtain ⟨y3, y4, y5, rfl, rfl, eq⟩ := hP
      obtain ⟨k, ek, ⟨t, rfl, ht⟩⟩ := Paired.at hpr ex
      have ed : B.drop i = k :: B.drop (i + 1) := drop_at ek
      rw [ed] at eq
      refine ⟨t, _, rfl, .of ht, rfl, _, _, rfl, _, _, rfl, _, _, rfl, rfl, ?_⟩
      have done : ∀ z : Option Int, pgR B m = z → Q (oI z) H4 := fun z e => by
        rw [← e]
        exact q
      have e0 : pgR (k :: B.drop (i + 1)) m = if k.1 ≤ m ∧ m < k.1 + k.2.2 then some (k.2.1 + m - k.1) else if k.2.1 ≤ m ∧ m < k.2.1 + k.2.2 then some (k.1 + m - k.2.1) else pgR (B.drop (i + 1)) m := rfl
      refine ⟨fun σ' H' => σ' = [some (.ref a), some (.int m), some (.int k.1), some (.int k.2.1), some (.int k.2.2)] ∧ H' = H4 ∧ ¬ (k.1 ≤ m ∧ m < k.1 + k.2.2), ?_, fun σ' H6 hM => ?_⟩
      · by_cases c1 : k.1 ≤ m ∧ m < k.1 + k.2.2
        · rw [e0, if_pos c1] at eq
          refine ⟨_, rfl, _, rfl, _, _, rfl, rfl, _, rfl, iteP (decide_eq_true c1.1) ⟨_, rfl, _, rfl, _, _, rfl, rfl, _, _, rfl, rfl, _, rfl, iteP (decide_eq_true c1.2) ?_⟩⟩
          exact ⟨_, rfl, _, rfl, _, _, rfl, rfl, _, rfl, _, _, rfl, rfl, done _ eq⟩
        · by_cases c2 : k.1 ≤ m
          · exact ⟨_, rfl, _, rfl, _, _, rfl, rfl, _, rfl, iteP (decide_eq_true c2) ⟨_, rfl, _, rfl, _, _, rfl, rfl, _, _, rfl, rfl, _, rfl, iteN (decide_eq_false fun z => c1 ⟨c2, z⟩) ⟨rfl, rfl, c1⟩⟩⟩
          · exact ⟨_, rfl, _, rfl, _, _, rfl, rfl, _, rfl, iteN (decide_eq_false c2) ⟨_, rfl, iteF ⟨rfl, rfl, c1⟩⟩⟩
      · obtain ⟨rfl, rfl, c1⟩ := hM
        rw [e0, if_neg c1] at eq
        by_cases c1 : k.2.1 ≤ m ∧ m < k.2.1 + k.2.2
        · rw [if_pos c1] at eq
          refine ⟨_, rfl, _, rfl, _, _, rfl, rfl, _, rfl, iteP (decide_eq_true c1.1) ⟨_, rfl, _, rfl, _, _, rfl, rfl, _, _, rfl, rfl, _, rfl, iteP (decide_eq_true c1.2) ?_⟩⟩
          exact ⟨_, rfl, _, rfl, _, _, rfl, rfl, _, rfl, _, _, rfl, rfl, done _ eq⟩
        · rw [if_neg c1] at eq
          by_cases c2 : k.2.1 ≤ m
          · exact ⟨_, rfl, _, rfl, _, _, rfl, rfl, _, rfl, iteP (decide_eq_true c2) ⟨_, rfl, _, rfl, _, _, rfl, rfl, _, _, rfl, rfl, _, rfl, iteN (decide_eq_false fun z => c1 ⟨c2, z⟩) ⟨_, _, _, rfl, rfl, eq⟩⟩⟩
          · exact ⟨_, rfl, _, rfl, _, _, rfl, rfl, _, rfl, iteN (decide_eq_false c2) ⟨_, rfl, iteF ⟨_, _, _, rfl, rfl, eq⟩⟩⟩
    · obtain ⟨y3, y4, y5, rfl, rfl, eq⟩ := hP
      rw [lx, List.drop_length] at eq
      have := q
      rw [eq] at this
      exact this
end
end UP

set_option Elab.async false
set_option linter.all false
set_option maxRecDepth 100000
set_option maxHeartbeats 4000000
namespace UP
open PySem PySem.Spec PyProof.Rows L2
/-! ### pairs written out -/
abbrev Pr := Int × Int
def zpL : List Int → Int → List Pr
  | [], _ => []
  | p :: t, b => (p, b) :: zpL t (b + 1)
theorem zpL_app : ∀ (l m : List Int) (b : Int), zpL (l ++ m) b = zpL l b ++ zpL m (b + (l.length : Int))
  | [], m, b => by
    show zpL m b = zpL m (b + ((0 : Nat) : Int))
    rw [show b + ((0 : Nat) : Int) = b by omega]
  | p :: t, m, b => by
    show (p, b) :: zpL (t ++ m) (b + 1) = (p, b) :: (zpL t (b + 1) ++ zpL m (b + ((p :: t).length : Int)))
    rw [zpL_app t m, List.length_cons, show b + 1 + (t.length : Int) = b + ((t.length + 1 : Nat) : Int) by omega]
def flX (x : Blk) : List Pr := zpL (posL x.1 x.2.2.toNat) x.2.1
def flB (B : List Blk) : List Pr := B.flatMap flX
theorem flB_app (B C : List Blk) : flB (B ++ C) = flB B ++ flB C := List.flatMap_append ..
theorem flB_one (x : Blk) : flB [x] = flX x := by
  show flX x ++ [] = _
  rw [List.append_nil]
def PosB (B : List Blk) : Prop := ∀ x ∈ B, 0 < x.2.2
theorem posL_take : ∀ (n k : Nat) (a : Int), k ≤ n → (posL a n).take k = posL a k := by
  intro n k a h
  have e : n = k + (n - k) := by omega
  rw [e, posL_app, List.take_append_of_le_length (by rw [posL_len]; exact Nat.le_refl _), List.take_of_length_le (by rw [posL_len]; exact Nat.le_refl _)]
theorem fl_br {c : Int} : ∀ {R : List Rg} {b n : Int}, Gd R c → 0 ≤ n → flB (brR R b n) = zpL ((flR R).take n.toNat) b
  | [], b, n, _, _ => by
    show ([] : List Pr) = zpL (([] : List Int).take _) b
    rw [List.take_nil]
    rfl
  | p :: t, b, n, g, hn => by
    have g1 := g.1
    have h := rm_le (p := p) g1 hn
    have ih := fl_br (b := b + rmR p n) (n := n - rmR p n) g.2.2.2 (by omega)
    show flB (brP p b n ++ brR t (b + rmR p n) (n - rmR p n)) = zpL ((flP p ++ flR t).take n.toNat) b
    have lp : (flP p).length = (p.2 - p.1 + 1).toNat := posL_len _ _
    have e1 : flB (brP p b n) = zpL (posL p.1 (rmR p n).toNat) b := by
      by_cases c : 0 < rmR p n
      · rw [show brP p b n = [(p.1, b, rmR p n)] from if_pos c, flB_one]
        rfl
      · rw [show brP p b n = [] from if_neg c, show (rmR p n).toNat = 0 by omega]
        rfl
    rw [flB_app, ih, e1, List.take_append, zpL_app, lp]
    have e2 : (flP p).take n.toNat = posL p.1 (rmR p n).toNat := by
      by_cases c : rmR p n < p.2 - p.1 + 1
      · have e := h.2.2.2 c
        unfold flP
        rw [posL_take _ _ _ (by omega), e]
      · rw [List.take_of_length_le (by omega)]
        unfold flP
        rw [show (p.2 - p.1 + 1).toNat = (rmR p n).toNat by omega]
    rw [e2, posL_len, show ((rmR p n).toNat : Int) = rmR p n by omega, show (n - rmR p n).toNat = n.toNat - (p.2 - p.1 + 1).toNat by
      by_cases c : rmR p n < p.2 - p.1 + 1
      · have e := h.2.2.2 c
        omega
      · omega]
theorem pos_brR : ∀ (R : List Rg) (b n : Int), PosB (brR R b n)
  | [], _, _ => fun x h => by cases h
  | p :: t, b, n => by
    intro x hx
    rcases List.mem_append.mp (show x ∈ brP p b n ++ brR t (b + rmR p n) (n - rmR p n) from hx) with z | z
    · by_cases c : 0 < rmR p n
      · rw [show brP p b n = [(p.1, b, rmR p n)] from if_pos c] at z
        rw [List.mem_singleton.mp z]
        exact c
      · rw [show brP p b n = [] from if_neg c] at z
        cases z
    · exact pos_brR t _ _ x z
theorem addB_cases (B : List Blk) (x : Blk) : addB B x = B ++ [x] ∨ ∃ B0 l, B = B0 ++ [l] ∧ l.1 + l.2.2 = x.1 ∧ l.2.1 + l.2.2 = x.2.1 ∧ addB B x = B0 ++ [(l.1, l.2.1, l.2.2 + x.2.2)] := by
  rcases shaped_not (B := B) with e | ⟨B0, l, e⟩
  · subst e
    exact .inl rfl
  · subst e
    by_cases c : l.1 + l.2.2 = x.1 ∧ l.2.1 + l.2.2 = x.2.1
    · refine .inr ⟨B0, l, rfl, c.1, c.2, ?_⟩
      unfold addB
      rw [List.getLast?_concat, List.dropLast_concat]
      exact if_pos c
    · refine .inl ?_
      unfold addB
      rw [List.getLast?_concat]
      exact if_neg c
theorem fl_add {B : List Blk} {x : Blk} (h : PosB B) (hx : 0 < x.2.2) : flB (addB B x) = flB B ++ flX x ∧ PosB (addB B x) := by
  rcases addB_cases B x with e | ⟨B0, l, e0, c1, c2, e⟩
  · rw [e, flB_app, flB_one]
    refine ⟨rfl, fun y hy => ?_⟩
    rcases List.mem_append.mp hy with z | z
    · exact h y z
    · rw [List.mem_singleton.mp z]
      exact hx
  · subst e0
    have hl : 0 < l.2.2 := h l (List.mem_append.mpr (.inr (List.mem_singleton.mpr rfl)))
    rw [e]
    refine ⟨?_, fun y hy => ?_⟩
    · rw [flB_app, flB_app, flB_one, flB_one, List.append_assoc]
      congr 1
      show zpL (posL l.1 (l.2.2 + x.2.2).toNat) l.2.1 = zpL (posL l.1 l.2.2.toNat) l.2.1 ++ zpL (posL x.1 x.2.2.toNat) x.2.1
      rw [show (l.2.2 + x.2.2).toNat = l.2.2.toNat + x.2.2.toNat by omega, posL_app, zpL_app, posL_len, show ((l.2.2.toNat : Nat) : Int) = l.2.2 by omega, c1, c2]
    · rcases List.mem_append.mp hy with z | z
      · exact h y (List.mem_append.mpr (.inl z))
      · rw [List.mem_singleton.mp z]
        show 0 < l.2.2 + x.2.2
        omega
theorem fl_adds : ∀ (xs B : List Blk), PosB B → PosB xs → flB (addsB B xs) = flB B ++ flB xs ∧ PosB (addsB B xs)
  | [], B, h, _ => by
    refine ⟨?_, h⟩
    show flB B = flB B ++ []
    rw [List.append_nil]
  | x :: t, B, h, hx => by
    obtain ⟨a1, a2⟩ := fl_add (x := x) h (hx x (List.mem_cons_self ..))
    obtain ⟨b1, b2⟩ := fl_adds t (addB B x) a2 fun y hy => hx y (List.mem_cons_of_mem _ hy)
    refine ⟨?_, b2⟩
    show flB (addsB (addB B x) t) = flB B ++ (flX x ++ flB t)
    rw [b1, a1, List.append_assoc]
/-! ### the pairs of a run -/
theorem psR_app : ∀ (l m : List Str) (ws : List Run) (n : Nat), psR ws n (l ++ m) = psR ws n l ++ psR (plA ws n l) (n + l.length) m
  | [], m, ws, n => rfl
  | k :: t, m, ws, n => by
    show plP ws k n ++ psR (plS ws k n) (n + 1) (t ++ m) = (plP ws k n ++ psR (plS ws k n) (n + 1) t) ++ psR (plA (plS ws k n) (n + 1) t) (n + (k :: t).length) m
    rw [psR_app t m, List.length_cons, List.append_assoc, show n + 1 + t.length = n + (t.length + 1) by omega]
theorem ps_same : ∀ (c : Nat) (ws : List Run) (n : Nat) (k : Str), (∀ r ∈ ws, r.1 = k) → psR ws n (List.replicate c k) = []
  | 0, _, _, _, _ => rfl
  | c + 1, ws, n, k, h => by
    have e : plS ws k n = ws ++ [(k, (n : Int))] ∧ plP ws k n = [] := by
      cases ws with
      | nil => exact ⟨rfl, rfl⟩
      | cons r t => exact ⟨if_pos (h r (List.mem_cons_self ..)), if_pos (h r (List.mem_cons_self ..))⟩
    show plP ws k n ++ psR (plS ws k n) (n + 1) (List.replicate c k) = []
    rw [e.1, e.2, ps_same c _ (n + 1) k (fun r hr => by
      rcases List.mem_append.mp hr with z | z
      · exact h r z
      · rw [List.mem_singleton.mp z])]
    rfl
theorem ps_other : ∀ (c : Nat) (ws : List Run) (n : Nat) (k : Str), (∀ r ∈ ws, r.1 ≠ k) → psR ws n (List.replicate c k) = zpL ((psW ws).take c) (n : Int)
  | 0, ws, n, k, _ => rfl
  | c + 1, [], n, k, _ => by
    rw [ps_same (c + 1) [] n k (fun r h => by cases h)]
    rfl
  | c + 1, r :: t, n, k, h => by
    have hr := h r (List.mem_cons_self ..)
    have e1 : plS (r :: t) k n = t := if_neg hr
    have e2 : plP (r :: t) k n = [(r.2, (n : Int))] := if_neg hr
    show plP (r :: t) k n ++ psR (plS (r :: t) k n) (n + 1) (List.replicate c k) = (r.2, (n : Int)) :: zpL ((psW t).take c) ((n : Int) + 1)
    rw [e1, e2, ps_other c t (n + 1) k fun x hx => h x (List.mem_cons_of_mem _ hx)]
    rfl
theorem pairs_run {ws : List Run} {R : List Rg} {n : Nat} {r : Run} {b : Int} (u : Uni ws) (fl : flR R = psW ws) (g : Gd R b) (c1 : 1 ≤ r.2) : flB (brR R (n : Int) (leavR (toldR ws) r.1 r.2)) = psR ws n (List.replicate r.2.toNat r.1) := by
  cases ws with
  | nil =>
    rw [ps_same _ [] n r.1 (fun r h => by cases h), fl_br g (by show (0 : Int) ≤ 0; omega)]
    rfl
  | cons y t =>
    by_cases e : y.1 = r.1
    · have all : ∀ x ∈ y :: t, x.1 = r.1 := fun x hx => (u x hx y (List.mem_cons_self ..)).trans e
      have lv : leavR (toldR (y :: t)) r.1 r.2 = 0 := if_pos e
      rw [lv, ps_same _ _ n r.1 all, fl_br g (Int.le_refl _)]
      rfl
    · have all : ∀ x ∈ y :: t, x.1 ≠ r.1 := fun x hx z => e ((u y (List.mem_cons_self ..) x hx).trans z)
      have lv : leavR (toldR (y :: t)) r.1 r.2 = if r.2 < ((y :: t).length : Int) then r.2 else ((y :: t).length : Int) := if_neg e
      have lp : (psW (y :: t)).length = (y :: t).length := List.length_map _
      rw [ps_other _ _ n r.1 all, lv]
      by_cases q : r.2 < ((y :: t).length : Int)
      · rw [if_pos q, fl_br g (by omega), fl]
      · rw [if_neg q, fl_br g (by omega), fl, List.take_of_length_le (by omega), List.take_of_length_le (by omega)]
theorem all_pairs : ∀ (rs : List Run) (ws : List Run) (R : List Rg) (n : Nat) (B : List Blk), Uni ws → flR R = psW ws → Gd R (n : Int) → (∀ r ∈ rs, 1 ≤ r.2) → Alt rs → (∀ l, R.getLast? = some l → l.2 = (n : Int) - 1 → ∀ x r, toldR ws = some x → rs.head? = some r → x.1 ≠ r.1) → PosB B →
    flB (boR rs (toldR ws) (n : Int) R B) = flB B ++ psR ws n (itR rs) ∧ PosB (boR rs (toldR ws) (n : Int) R B)
  | [], ws, R, n, B, _, _, _, _, _, _, hB => by
    refine ⟨?_, hB⟩
    show flB B = flB B ++ []
    rw [List.append_nil]
  | r :: t, ws, R, n, B, u, fl, g, k, alt, bd, hB => by
    have c1 := k r (List.mem_cons_self ..)
    obtain ⟨h1, h2, h3⟩ := one_run (r := r) u fl g c1 fun l hl hz x hx => bd l hl hz x r hx rfl
    obtain ⟨a1, a2⟩ := fl_adds (brR R (n : Int) (leavR (toldR ws) r.1 r.2)) B hB (pos_brR _ _ _)
    rw [pairs_run u fl g c1] at a1
    have e : itR (r :: t) = List.replicate r.2.toNat r.1 ++ itR t := rfl
    have cn : ((n + r.2.toNat : Nat) : Int) = (n : Int) + r.2 := by omega
    have told' : toldR (plA ws n (List.replicate r.2.toNat r.1)) = stepR (toldR ws) r.1 r.2 := by
      have nn : PosO (toldR ws) := by
        intro x hx
        cases ws with
        | nil => cases hx
        | cons y t =>
          cases hx
          show 1 ≤ (((y :: t).length : Nat) : Int)
          rw [List.length_cons]
          omega
      obtain ⟨c, hc⟩ : ∃ c : Nat, r.2.toNat = c + 1 := ⟨r.2.toNat - 1, by omega⟩
      rw [told_plA _ _ _ u, hc, it_step c _ _ nn, show (c : Int) + 1 = r.2 by omega]
    have ih := all_pairs t (plA ws n (List.replicate r.2.toNat r.1)) _ (n + r.2.toNat) _ (uni_plA _ _ _ u) h1 (by rw [cn]; exact h2) (fun x hx => k x (List.mem_cons_of_mem _ hx)) (fun i x y hx hy => alt (i + 1) x y hx hy) (fun l hl hz x r' hx hr' => by
      have ex := h3 l hl (by omega) x hx
      rw [ex]
      refine alt 0 r r' rfl ?_
      cases t with
      | nil => cases hr'
      | cons y s => exact hr') a2
    rw [cn, told', a1] at ih
    rw [e, psR_app, List.length_replicate, ← List.append_assoc]
    exact ih
theorem whole_pairs {rs : List Run} (k : ∀ r ∈ rs, 1 ≤ r.2) (a : Alt rs) : flB (blR rs) = psR [] 0 (itR rs) ∧ PosB (blR rs) := by
  obtain ⟨h1, h2⟩ := all_pairs rs [] [] 0 [] (fun x hx => by cases hx) rfl trivial k a (fun l hl => by cases hl) (fun x hx => by cases hx)
  exact ⟨h1, h2⟩
/-! ### every position once -/
theorem ps_perm : ∀ (ks : List Str) (ws : List Run) (n : Nat), ((psR ws n ks).map (·.1) ++ ((psR ws n ks).map (·.2) ++ psW (plA ws n ks))).Perm (psW ws ++ posL (n : Int) ks.length)
  | [], ws, n => by
    show (([] : List Int) ++ ([] ++ psW ws)).Perm (psW ws ++ [])
    rw [List.append_nil]
    exact .refl _
  | k :: t, ws, n => by
    have ih := ps_perm t (plS ws k n) (n + 1)
    have eL : posL (n : Int) (k :: t).length = (n : Int) :: posL ((n + 1 : Nat) : Int) t.length := rfl
    rw [eL]
    cases ws with
    | nil => exact ih
    | cons r u =>
      by_cases e : r.1 = k
      · have e1 : plS (r :: u) k n = (r :: u) ++ [(k, (n : Int))] := if_pos e
        have e2 : psR (r :: u) n (k :: t) = psR (plS (r :: u) k n) (n + 1) t := by
          show plP (r :: u) k n ++ _ = _
          rw [show plP (r :: u) k n = [] from if_pos e]
          rfl
        rw [e2]
        show (_ ++ (_ ++ psW (plA (plS (r :: u) k n) (n + 1) t))).Perm _
        have e3 : psW (plS (r :: u) k n) ++ posL ((n + 1 : Nat) : Int) t.length = psW (r :: u) ++ (n : Int) :: posL ((n + 1 : Nat) : Int) t.length := by
          rw [e1]
          unfold psW
          rw [List.map_append, List.append_assoc]
          rfl
        rw [← e3]
        exact ih
      · have e1 : plS (r :: u) k n = u := if_neg e
        have e2 : psR (r :: u) n (k :: t) = (r.2, (n : Int)) :: psR (plS (r :: u) k n) (n + 1) t := by
          show plP (r :: u) k n ++ _ = _
          rw [show plP (r :: u) k n = [(r.2, (n : Int))] from if_neg e]
          rfl
        rw [e2]
        show (_ ++ (_ ++ psW (plA (plS (r :: u) k n) (n + 1) t))).Perm _
        rw [e1] at ih ⊢
        rw [List.map_cons, List.map_cons]
        show (r.2 :: ((psR u (n + 1) t).map (·.1) ++ ((n : Int) :: ((psR u (n + 1) t).map (·.2) ++ psW (plA u (n + 1) t))))).Perm (r.2 :: (psW u ++ (n : Int) :: posL ((n + 1 : Nat) : Int) t.length))
        exact .cons _ (List.perm_middle.trans ((List.Perm.cons _ ih).trans List.perm_middle.symm))
theorem posL_ge : ∀ (n : Nat) (a : Int), ∀ x ∈ posL a n, a ≤ x ∧ x < a + (n : Int)
  | 0, _, x, h => by cases h
  | n + 1, a, x, h => by
    rcases List.mem_cons.mp (show x ∈ a :: posL (a + 1) n from h) with z | z
    · omega
    · have := posL_ge n (a + 1) x z
      omega
theorem posL_nodup : ∀ (n : Nat) (a : Int), (posL a n).Nodup
  | 0, _ => List.nodup_nil
  | n + 1, a => by
    refine List.nodup_cons.mpr ⟨fun h => ?_, posL_nodup n (a + 1)⟩
    have := posL_ge n (a + 1) a h
    omega
theorem ps_nodup (ks : List Str) : ((psR [] 0 ks).map (·.1) ++ ((psR [] 0 ks).map (·.2) ++ psW (plA [] 0 ks))).Nodup := by
  have h := ps_perm ks [] 0
  exact h.symm.nodup (posL_nodup _ _)
theorem ps_count (ks : List Str) : 2 * (psR [] 0 ks).length + (plA [] 0 ks).length = ks.length := by
  have h := (ps_perm ks [] 0).length_eq
  rw [List.length_append, List.length_append, List.length_map, List.length_map, List.length_append, posL_len] at h
  have e : (psW (plA [] 0 ks)).length = (plA [] 0 ks).length := List.length_map _
  have e2 : (psW ([] : List Run)).length = 0 := rfl
  omega
theorem ps_snd : ∀ (ks : List Str) (ws : List Run) (n : Nat), ∀ p ∈ psR ws n ks, (n : Int) ≤ p.2 ∧ p.2 < (n : Int) + (ks.length : Int)
  | [], _, _, p, h => by cases h
  | k :: t, ws, n, p, h => by
    rw [List.length_cons]
    rcases List.mem_append.mp (show p ∈ plP ws k n ++ psR (plS ws k n) (n + 1) t from h) with z | z
    · have e : p.2 = (n : Int) := by
        cases ws with
        | nil => cases z
        | cons r u =>
          have z : p ∈ (if r.1 = k then [] else [(r.2, (n : Int))]) := z
          by_cases c : r.1 = k
          · rw [if_pos c] at z
            cases z
          · rw [if_neg c] at z
            rw [List.mem_singleton.mp z]
      omega
    · have := ps_snd t _ (n + 1) p z
      omega
theorem ps_filter (ks : List Str) (m : Nat) (h : m ≤ ks.length) : (psR [] 0 ks).filter (fun p => decide (p.2 < (m : Int))) = psR [] 0 (ks.take m) := by
  have e : psR [] 0 ks = psR [] 0 (ks.take m) ++ psR (plA [] 0 (ks.take m)) m (ks.drop m) := by
    have := psR_app (ks.take m) (ks.drop m) [] 0
    rw [List.take_append_drop, List.length_take, Nat.zero_add, Nat.min_eq_left h] at this
    exact this
  rw [e, List.filter_append]
  have f1 : (psR [] 0 (ks.take m)).filter (fun p => decide (p.2 < (m : Int))) = psR [] 0 (ks.take m) := by
    refine List.filter_eq_self.mpr fun p hp => decide_eq_true ?_
    have := ps_snd _ _ _ p hp
    rw [List.length_take] at this
    omega
  have f2 : (psR (plA [] 0 (ks.take m)) m (ks.drop m)).filter (fun p => decide (p.2 < (m : Int))) = [] := by
    refine List.filter_eq_nil_iff.mpr fun p hp z => ?_
    have := ps_snd _ _ _ p hp
    have := of_decide_eq_true z
    omega
  rw [f1, f2, List.append_nil]
theorem map_inj {α β : Type} {f : α → β} : ∀ {l : List α}, (l.map f).Nodup → ∀ {a b : α}, a ∈ l → b ∈ l → f a = f b → a = b
  | x :: t, h, a, b, ha, hb, e => by
    have h := List.nodup_cons.mp (show (f x :: t.map f).Nodup from h)
    rcases List.mem_cons.mp ha with h1 | h1
    · rcases List.mem_cons.mp hb with h2 | h2
      · rw [h1, h2]
      · exact absurd (List.mem_map.mpr ⟨b, h2, by rw [← e, h1]⟩) h.1
    · rcases List.mem_cons.mp hb with h2 | h2
      · exact absurd (List.mem_map.mpr ⟨a, h1, by rw [e, h2]⟩) h.1
      · exact map_inj h.2 h1 h2 e
/-- each position stands in one pair at most -/
structure U (P : List Pr) : Prop where
  fst : ∀ p ∈ P, ∀ q ∈ P, p.1 = q.1 → p = q
  snd : ∀ p ∈ P, ∀ q ∈ P, p.2 = q.2 → p = q
  dis : ∀ p ∈ P, ∀ q ∈ P, p.1 ≠ q.2
theorem u_ps (ks : List Str) : U (psR [] 0 ks) := by
  have h := ps_nodup ks
  obtain ⟨h1, h2, h3⟩ := List.nodup_append.mp h
  obtain ⟨h4, _, _⟩ := List.nodup_append.mp h2
  refine ⟨fun p hp q hq e => map_inj h1 hp hq e, fun p hp q hq e => map_inj h4 hp hq e, fun p hp q hq e => ?_⟩
  exact h3 _ (List.mem_map.mpr ⟨p, hp, rfl⟩) _ (List.mem_append.mpr (.inl (List.mem_map.mpr ⟨q, hq, rfl⟩))) e
theorem mem_zp : ∀ (n : Nat) (a b : Int) (p : Pr), p ∈ zpL (posL a n) b ↔ a ≤ p.1 ∧ p.1 < a + (n : Int) ∧ p.2 = b + p.1 - a
  | 0, a, b, p => by
    constructor
    · intro h
      cases h
    · intro h
      omega
  | n + 1, a, b, p => by
    have ih := mem_zp n (a + 1) (b + 1) p
    show p ∈ (a, b) :: zpL (posL (a + 1) n) (b + 1) ↔ _
    rw [List.mem_cons, ih]
    constructor
    · rintro (h | h)
      · rw [h]
        show a ≤ a ∧ a < a + ((n + 1 : Nat) : Int) ∧ b = b + a - a
        omega
      · omega
    · intro h
      by_cases c : p.1 = a
      · exact .inl (Prod.ext c (by show p.2 = b; omega))
      · exact .inr (by omega)
theorem mem_fl {x : Blk} (h : 0 < x.2.2) (p : Pr) : p ∈ flX x ↔ x.1 ≤ p.1 ∧ p.1 < x.1 + x.2.2 ∧ p.2 = x.2.1 + p.1 - x.1 := by
  unfold flX
  rw [mem_zp, show ((x.2.2.toNat : Nat) : Int) = x.2.2 by omega]
theorem pg_first : ∀ (B : List Blk) (p : Pr), PosB B → U (flB B) → p ∈ flB B → pgR B p.1 = some p.2
  | [], p, _, _, h => by cases h
  | x :: t, p, hB, u, h => by
    have hx := hB x (List.mem_cons_self ..)
    have mx := mem_fl hx
    show (if x.1 ≤ p.1 ∧ p.1 < x.1 + x.2.2 then some (x.2.1 + p.1 - x.1) else if x.2.1 ≤ p.1 ∧ p.1 < x.2.1 + x.2.2 then some (x.1 + p.1 - x.2.1) else pgR t p.1) = _
    by_cases c1 : x.1 ≤ p.1 ∧ p.1 < x.1 + x.2.2
    · rw [if_pos c1]
      have m : ((p.1, x.2.1 + p.1 - x.1) : Pr) ∈ flB (x :: t) := List.mem_append.mpr (.inl ((mx _).mpr ⟨c1.1, c1.2, rfl⟩))
      rw [← u.fst _ m _ h rfl]
    · rw [if_neg c1]
      by_cases c2 : x.2.1 ≤ p.1 ∧ p.1 < x.2.1 + x.2.2
      · have m : ((x.1 + p.1 - x.2.1, p.1) : Pr) ∈ flB (x :: t) := List.mem_append.mpr (.inl ((mx _).mpr ⟨by show x.1 ≤ x.1 + p.1 - x.2.1; omega, by show x.1 + p.1 - x.2.1 < _; omega, by show p.1 = x.2.1 + (x.1 + p.1 - x.2.1) - x.1; omega⟩))
        exact absurd rfl (u.dis _ h _ m)
      · rw [if_neg c2]
        rcases List.mem_append.mp (show p ∈ flX x ++ flB t from h) with z | z
        · have := (mx p).mp z
          exact absurd ⟨this.1, this.2.1⟩ c1
        · exact pg_first t p (fun y hy => hB y (List.mem_cons_of_mem _ hy)) ⟨fun a ha b hb => u.fst a (List.mem_append.mpr (.inr ha)) b (List.mem_append.mpr (.inr hb)), fun a ha b hb => u.snd a (List.mem_append.mpr (.inr ha)) b (List.mem_append.mpr (.inr hb)), fun a ha b hb => u.dis a (List.mem_append.mpr (.inr ha)) b (List.mem_append.mpr (.inr hb))⟩ z
theorem pg_second : ∀ (B : List Blk) (p : Pr), PosB B → U (flB B) → p ∈ flB B → pgR B p.2 = some p.1
  | [], p, _, _, h => by cases h
  | x :: t, p, hB, u, h => by
    have hx := hB x (List.mem_cons_self ..)
    have mx := mem_fl hx
    show (if x.1 ≤ p.2 ∧ p.2 < x.1 + x.2.2 then some (x.2.1 + p.2 - x.1) else if x.2.1 ≤ p.2 ∧ p.2 < x.2.1 + x.2.2 then some (x.1 + p.2 - x.2.1) else pgR t p.2) = _
    by_cases c1 : x.1 ≤ p.2 ∧ p.2 < x.1 + x.2.2
    · have m : ((p.2, x.2.1 + p.2 - x.1) : Pr) ∈ flB (x :: t) := List.mem_append.mpr (.inl ((mx _).mpr ⟨c1.1, c1.2, rfl⟩))
      exact absurd rfl (u.dis _ m _ h)
    · rw [if_neg c1]
      by_cases c2 : x.2.1 ≤ p.2 ∧ p.2 < x.2.1 + x.2.2
      · have m : ((x.1 + p.2 - x.2.1, p.2) : Pr) ∈ flB (x :: t) := List.mem_append.mpr (.inl ((mx _).mpr ⟨by show x.1 ≤ x.1 + p.2 - x.2.1; omega, by show x.1 + p.2 - x.2.1 < _; omega, by show p.2 = x.2.1 + (x.1 + p.2 - x.2.1) - x.1; omega⟩))
        rw [if_pos c2, ← u.snd _ m _ h rfl]
      · rw [if_neg c2]
        rcases List.mem_append.mp (show p ∈ flX x ++ flB t from h) with z | z
        · have := (mx p).mp z
          exact absurd ⟨by omega, by omega⟩ c2
        · exact pg_second t p (fun y hy => hB y (List.mem_cons_of_mem _ hy)) ⟨fun a ha b hb => u.fst a (List.mem_append.mpr (.inr ha)) b (List.mem_append.mpr (.inr hb)), fun a ha b hb => u.snd a (List.mem_append.mpr (.inr ha)) b (List.mem_append.mpr (.inr hb)), fun a ha b hb => u.dis a (List.mem_append.mpr (.inr ha)) b (List.mem_append.mpr (.inr hb))⟩ z
theorem pg_none : ∀ (B : List Blk) (m : Int), PosB B → (∀ p ∈ flB B, p.1 ≠ m ∧ p.2 ≠ m) → pgR B m = none
  | [], _, _, _ => rfl
  | x :: t, m, hB, h => by
    have hx := hB x (List.mem_cons_self ..)
    have mx := mem_fl hx
    show (if x.1 ≤ m ∧ m < x.1 + x.2.2 then some (x.2.1 + m - x.1) else if x.2.1 ≤ m ∧ m < x.2.1 + x.2.2 then some (x.1 + m - x.2.1) else pgR t m) = _
    by_cases c1 : x.1 ≤ m ∧ m < x.1 + x.2.2
    · have := h ((m, x.2.1 + m - x.1) : Pr) (List.mem_append.mpr (.inl ((mx _).mpr ⟨c1.1, c1.2, rfl⟩)))
      exact absurd rfl this.1
    · rw [if_neg c1]
      by_cases c2 : x.2.1 ≤ m ∧ m < x.2.1 + x.2.2
      · have := h ((x.1 + m - x.2.1, m) : Pr) (List.mem_append.mpr (.inl ((mx _).mpr ⟨by show x.1 ≤ x.1 + m - x.2.1; omega, by show x.1 + m - x.2.1 < _; omega, by show m = x.2.1 + (x.1 + m - x.2.1) - x.1; omega⟩)))
        exact absurd rfl this.2
      · rw [if_neg c2]
        exact pg_none t m (fun y hy => hB y (List.mem_cons_of_mem _ hy)) fun p hp => h p (List.mem_append.mpr (.inr hp))
end UP

set_option Elab.async false
set_option linter.all false
set_option maxRecDepth 100000
set_option maxHeartbeats 4000000
namespace UP
open PySem PySem.Spec PyProof.Rows L2
/-! ### dicts of pairs -/
theorem merge_hit {k : Key} {v : V} : ∀ (kvs acc : List (Key × V)), (∀ kv ∈ kvs, kv.1 = k → kv.2 = v) → (valV acc k = some v ∨ ∃ kv ∈ kvs, kv.1 = k) → valV (mergeK acc kvs) k = some v
  | [], acc, _, h => by
    rcases h with h | ⟨_, h, _⟩
    · exact h
    · cases h
  | x :: t, acc, hv, h => by
    show valV (mergeK (putK acc x.1 x.2) t) k = some v
    refine merge_hit t _ (fun kv hkv => hv kv (List.mem_cons_of_mem _ hkv)) ?_
    rw [valV_put]
    by_cases e : k = x.1
    · rw [if_pos e]
      exact .inl (by rw [hv x (List.mem_cons_self ..) e.symm])
    · rw [if_neg e]
      rcases h with h | ⟨kv, h, ek⟩
      · exact .inl h
      · rcases List.mem_cons.mp h with z | z
        · rw [z] at ek
          exact absurd ek.symm e
        · exact .inr ⟨kv, z, ek⟩
theorem merge_miss {k : Key} : ∀ (kvs acc : List (Key × V)), (∀ kv ∈ kvs, kv.1 ≠ k) → valV (mergeK acc kvs) k = valV acc k
  | [], acc, _ => rfl
  | x :: t, acc, hv => by
    show valV (mergeK (putK acc x.1 x.2) t) k = _
    rw [merge_miss t _ fun kv hkv => hv kv (List.mem_cons_of_mem _ hkv), valV_put, if_neg fun z => hv x (List.mem_cons_self ..) z.symm]
def kvP (P : List Pr) : List (Key × V) := P.map (fun p => (Sum.inl p.1, V.int p.2)) ++ P.map (fun p => (Sum.inl p.2, V.int p.1))
theorem mem_kvP {P : List Pr} {kv : Key × V} (h : kv ∈ kvP P) : ∃ p ∈ P, kv = (Sum.inl p.1, V.int p.2) ∨ kv = (Sum.inl p.2, V.int p.1) := by
  rcases List.mem_append.mp h with z | z
  · obtain ⟨p, hp, e⟩ := List.mem_map.mp z
    exact ⟨p, hp, .inl e.symm⟩
  · obtain ⟨p, hp, e⟩ := List.mem_map.mp z
    exact ⟨p, hp, .inr e.symm⟩
theorem inlI {a b : Int} (h : (Sum.inl a : Key) = Sum.inl b) : a = b := Sum.inl.inj h
/-- what the dict of the pairs says of a position -/
theorem dict_pairs {B : List Blk} {P : List Pr} (m : Int) (hB : PosB B) (e : flB B = P) (u : U P) : (valV (mergeK [] (kvP P)) (Sum.inl m)).getD .non = oI (pgR B m) := by
  subst e
  by_cases h1 : ∃ p ∈ flB B, p.1 = m
  · obtain ⟨p, hp, em⟩ := h1
    rw [← em, pg_first B p hB u hp, merge_hit (v := .int p.2) (kvP (flB B)) [] (fun kv hkv ek => ?_) (.inr ⟨(Sum.inl p.1, V.int p.2), List.mem_append.mpr (.inl (List.mem_map.mpr ⟨p, hp, rfl⟩)), rfl⟩)]
    · rfl
    · obtain ⟨q, hq, z | z⟩ := mem_kvP hkv
      · rw [z] at ek
        rw [z, u.fst q hq p hp (inlI ek)]
      · rw [z] at ek
        exact absurd (inlI ek).symm (u.dis p hp q hq)
  · by_cases h2 : ∃ p ∈ flB B, p.2 = m
    · obtain ⟨p, hp, em⟩ := h2
      rw [← em, pg_second B p hB u hp, merge_hit (v := .int p.1) (kvP (flB B)) [] (fun kv hkv ek => ?_) (.inr ⟨(Sum.inl p.2, V.int p.1), List.mem_append.mpr (.inr (List.mem_map.mpr ⟨p, hp, rfl⟩)), rfl⟩)]
      · rfl
      · obtain ⟨q, hq, z | z⟩ := mem_kvP hkv
        · rw [z] at ek
          exact absurd (inlI ek) (u.dis q hq p hp)
        · rw [z] at ek
          rw [z, u.snd q hq p hp (inlI ek)]
    · have no : ∀ p ∈ flB B, p.1 ≠ m ∧ p.2 ≠ m := fun p hp => ⟨fun z => h1 ⟨p, hp, z⟩, fun z => h2 ⟨p, hp, z⟩⟩
      rw [pg_none B m hB no, merge_miss (kvP (flB B)) [] fun kv hkv ek => ?_]
      · rfl
      · obtain ⟨q, hq, z | z⟩ := mem_kvP hkv
        · rw [z] at ek
          exact (no q hq).1 (inlI ek)
        · rw [z] at ek
          exact (no q hq).2 (inlI ek)
/-! ### the number of pairs -/
def pcR (rs : List Run) (m : Int) : Int := (m - numR (stR (cutR 0 m 0 rs) none)) / 2
theorem pos_none : PosO none := fun r h => by cases h
theorem pc_at {rs : List Run} {m : Nat} (k : ∀ r ∈ rs, 1 ≤ r.2) (h : m ≤ (itR rs).length) : pcR rs (m : Int) = ((psR [] 0 ((itR rs).take m)).length : Int) := by
  have e1 := at_moment (m := m) pos_none k
  have e2 := ps_count ((itR rs).take m)
  rw [List.length_take, Nat.min_eq_left h] at e2
  unfold pcR
  rw [e1, told_len]
  show ((m : Int) - ((plA [] 0 ((itR rs).take m)).length : Int)) / 2 = _
  omega
theorem dt_int {H : Hp} {n : Nat} {i : Int} : Dt H n (.int i) (.int i) := by
  cases n with
  | zero => exact .inr (.inr (.inl ⟨_, rfl, rfl⟩))
  | succ m => exact .inl (.inr (.inr (.inl ⟨_, rfl, rfl⟩)))
theorem dt_oI {H : Hp} {n : Nat} (z : Option Int) : ∃ d, Dt H n (oI z) d := by
  cases z with
  | none =>
    cases n with
    | zero => exact ⟨_, .inl ⟨rfl, rfl⟩⟩
    | succ m => exact ⟨_, .inl (.inl ⟨rfl, rfl⟩)⟩
  | some i => exact ⟨_, dt_int⟩
theorem dt_two {H : Hp} {a : Addr} {i j : Int} (h : H a = some (.lst [.int i, .int j])) : Dt H 2 (.ref a) (.list [.int i, .int j]) := .inr (.inl ⟨a, _, _, rfl, h, rfl, .cons dt_int (.cons dt_int .nil), Nat.le_of_ble_eq_true rfl⟩)
section
variable {P : Program} {w : World} {K : PySem.W.Frag} {mg : Str → Option Value} {base : Heap}
end
end UP

set_option Elab.async false
set_option linter.all false
set_option maxRecDepth 100000
set_option maxHeartbeats 4000000
namespace UP
open PySem PySem.Spec PyProof.Rows L2
def cntB (B : List Blk) : Int := (B.map (·.2.2)).sum
theorem cntB_cons (x : Blk) (t : List Blk) : cntB (x :: t) = x.2.2 + cntB t := by
  unfold cntB
  rw [List.map_cons, List.sum_cons]
theorem zpL_len : ∀ (l : List Int) (b : Int), (zpL l b).length = l.length
  | [], _ => rfl
  | _ :: t, b => congrArg Nat.succ (zpL_len t (b + 1))
theorem flX_len (x : Blk) : (flX x).length = x.2.2.toNat := by
  unfold flX
  rw [zpL_len, posL_len]
theorem cnt_fl : ∀ (B : List Blk), PosB B → cntB B = ((flB B).length : Int)
  | [], _ => rfl
  | x :: t, h => by
    have hx := h x (List.mem_cons_self ..)
    rw [cntB_cons, cnt_fl t fun y hy => h y (List.mem_cons_of_mem _ hy)]
    show _ = ((flX x ++ flB t).length : Int)
    rw [List.length_append, flX_len]
    omega
theorem zp_get : ∀ (n : Nat) (a b : Int) (i : Nat), i < n → (zpL (posL a n) b)[i]? = some (a + (i : Int), b + (i : Int))
  | 0, _, _, _, h => by omega
  | n + 1, a, b, 0, _ => by
    show some (a, b) = _
    rw [show a + ((0 : Nat) : Int) = a by omega, show b + ((0 : Nat) : Int) = b by omega]
  | n + 1, a, b, i + 1, h => by
    show (zpL (posL (a + 1) n) (b + 1))[i]? = _
    rw [zp_get n (a + 1) (b + 1) i (by omega), show a + 1 + (i : Int) = a + ((i + 1 : Nat) : Int) by omega, show b + 1 + (i : Int) = b + ((i + 1 : Nat) : Int) by omega]
section
variable {P : Program} {w : World} {K : PySem.W.Frag} {mg : Str → Option Value} {base : Heap}
end
end UP

set_option Elab.async false
set_option linter.all false
set_option maxRecDepth 100000
set_option maxHeartbeats 4000000
namespace UP
open PySem PySem.Spec PyProof.Rows L2
/-! ### blocks, pair by pair -/
def addU (B : List Blk) (P : List Pr) : List Blk := P.foldl (fun F p => addB F (p.1, p.2, 1)) B
theorem addB_nil (x : Blk) : addB [] x = [x] := rfl
theorem addB_join {B : List Blk} {l x : Blk} (h : l.1 + l.2.2 = x.1 ∧ l.2.1 + l.2.2 = x.2.1) : addB (B ++ [l]) x = B ++ [(l.1, l.2.1, l.2.2 + x.2.2)] := by
  unfold addB
  rw [List.getLast?_concat, List.dropLast_concat]
  exact if_pos h
theorem addB_new {B : List Blk} {l x : Blk} (h : ¬ (l.1 + l.2.2 = x.1 ∧ l.2.1 + l.2.2 = x.2.1)) : addB (B ++ [l]) x = (B ++ [l]) ++ [x] := by
  unfold addB
  rw [List.getLast?_concat]
  exact if_neg h
theorem add_add (B : List Blk) (a b k : Int) : addB (addB B (a, b, 1)) (a + 1, b + 1, k) = addB B (a, b, 1 + k) := by
  rcases shaped_not (B := B) with e | ⟨B0, l, e⟩
  · subst e
    exact addB_join (B := []) (l := (a, b, 1)) ⟨rfl, rfl⟩
  · subst e
    by_cases c : l.1 + l.2.2 = a ∧ l.2.1 + l.2.2 = b
    · rw [addB_join (x := (a, b, 1)) c, addB_join (x := (a, b, 1 + k)) c, addB_join (x := (a + 1, b + 1, k)) ⟨by show l.1 + (l.2.2 + 1) = a + 1; omega, by show l.2.1 + (l.2.2 + 1) = b + 1; omega⟩]
      show B0 ++ [(l.1, l.2.1, l.2.2 + 1 + k)] = B0 ++ [(l.1, l.2.1, l.2.2 + (1 + k))]
      rw [Int.add_assoc]
    · rw [addB_new (x := (a, b, 1)) c, addB_new (x := (a, b, 1 + k)) c]
      exact addB_join (B := B0 ++ [l]) (l := (a, b, 1)) ⟨rfl, rfl⟩
theorem unit_add : ∀ (c : Nat) (a b : Int) (B : List Blk), addU B (zpL (posL a (c + 1)) b) = addB B (a, b, (c : Int) + 1)
  | 0, a, b, B => rfl
  | c + 1, a, b, B => by
    show addU (addB B (a, b, 1)) (zpL (posL (a + 1) (c + 1)) (b + 1)) = _
    rw [unit_add c, add_add, show (1 : Int) + ((c : Int) + 1) = ((c + 1 : Nat) : Int) + 1 by omega]
theorem addU_app (B : List Blk) (P Q : List Pr) : addU B (P ++ Q) = addU (addU B P) Q := List.foldl_append ..
theorem adds_units : ∀ (xs B : List Blk), PosB xs → addsB B xs = addU B (flB xs)
  | [], _, _ => rfl
  | x :: t, B, h => by
    have hx := h x (List.mem_cons_self ..)
    obtain ⟨c, hc⟩ : ∃ c : Nat, x.2.2.toNat = c + 1 := ⟨x.2.2.toNat - 1, by omega⟩
    show addsB (addB B x) t = addU B (flX x ++ flB t)
    rw [addU_app, adds_units t _ fun y hy => h y (List.mem_cons_of_mem _ hy)]
    congr 1
    unfold flX
    rw [hc, unit_add, show (c : Int) + 1 = x.2.2 by omega]
theorem all_units : ∀ (rs : List Run) (ws : List Run) (R : List Rg) (n : Nat) (B : List Blk), Uni ws → flR R = psW ws → Gd R (n : Int) → (∀ r ∈ rs, 1 ≤ r.2) → Alt rs → (∀ l, R.getLast? = some l → l.2 = (n : Int) - 1 → ∀ x r, toldR ws = some x → rs.head? = some r → x.1 ≠ r.1) →
    boR rs (toldR ws) (n : Int) R B = addU B (psR ws n (itR rs))
  | [], ws, R, n, B, _, _, _, _, _, _ => rfl
  | r :: t, ws, R, n, B, u, fl, g, k, alt, bd => by
    have c1 := k r (List.mem_cons_self ..)
    obtain ⟨h1, h2, h3⟩ := one_run (r := r) u fl g c1 fun l hl hz x hx => bd l hl hz x r hx rfl
    have a1 := adds_units (brR R (n : Int) (leavR (toldR ws) r.1 r.2)) B (pos_brR _ _ _)
    rw [pairs_run u fl g c1] at a1
    have e : itR (r :: t) = List.replicate r.2.toNat r.1 ++ itR t := rfl
    have cn : ((n + r.2.toNat : Nat) : Int) = (n : Int) + r.2 := by omega
    have told' : toldR (plA ws n (List.replicate r.2.toNat r.1)) = stepR (toldR ws) r.1 r.2 := by
      have nn : PosO (toldR ws) := by
        intro x hx
        cases ws with
        | nil => cases hx
        | cons y t =>
          cases hx
          show 1 ≤ (((y :: t).length : Nat) : Int)
          rw [List.length_cons]
          omega
      obtain ⟨c, hc⟩ : ∃ c : Nat, r.2.toNat = c + 1 := ⟨r.2.toNat - 1, by omega⟩
      rw [told_plA _ _ _ u, hc, it_step c _ _ nn, show (c : Int) + 1 = r.2 by omega]
    have ih := all_units t (plA ws n (List.replicate r.2.toNat r.1)) _ (n + r.2.toNat) (addsB B (brR R (n : Int) (leavR (toldR ws) r.1 r.2))) (uni_plA _ _ _ u) h1 (by rw [cn]; exact h2) (fun x hx => k x (List.mem_cons_of_mem _ hx)) (fun i x y hx hy => alt (i + 1) x y hx hy) (fun l hl hz x r' hx hr' => by
      have ex := h3 l hl (by omega) x hx
      rw [ex]
      refine alt 0 r r' rfl ?_
      cases t with
      | nil => cases hr'
      | cons y s => exact hr')
    rw [cn, told'] at ih
    rw [e, psR_app, List.length_replicate, addU_app, ← a1]
    exact ih
theorem whole_units {rs : List Run} (k : ∀ r ∈ rs, 1 ≤ r.2) (a : Alt rs) : blR rs = addU [] (psR [] 0 (itR rs)) :=
  all_units rs [] [] 0 [] (fun x hx => by cases hx) rfl trivial k a (fun l hl => by cases hl)
/-! ### all counts multiplied -/
def scX (t : Int) (x : Blk) : Blk := (x.1 * t, x.2.1 * t, x.2.2 * t)
def scB (t : Int) (B : List Blk) : List Blk := B.map (scX t)
theorem eq_sc {a b t : Int} (ht : 0 < t) : a * t = b * t ↔ a = b :=
  ⟨fun z => Int.le_antisymm ((le_sc ht).mp (by omega)) ((le_sc ht).mp (by omega)), fun z => by rw [z]⟩
theorem addB_sc {t : Int} (ht : 0 < t) (B : List Blk) (x : Blk) : addB (scB t B) (scX t x) = scB t (addB B x) := by
  rcases shaped_not (B := B) with e | ⟨B0, l, e⟩
  · subst e
    rfl
  · subst e
    have e1 : scB t (B0 ++ [l]) = scB t B0 ++ [scX t l] := List.map_append ..
    rw [e1]
    have i1 : (scX t l).1 + (scX t l).2.2 = (scX t x).1 ↔ l.1 + l.2.2 = x.1 := by
      show l.1 * t + l.2.2 * t = x.1 * t ↔ _
      rw [← Int.add_mul]
      exact eq_sc ht
    have i2 : (scX t l).2.1 + (scX t l).2.2 = (scX t x).2.1 ↔ l.2.1 + l.2.2 = x.2.1 := by
      show l.2.1 * t + l.2.2 * t = x.2.1 * t ↔ _
      rw [← Int.add_mul]
      exact eq_sc ht
    by_cases c : l.1 + l.2.2 = x.1 ∧ l.2.1 + l.2.2 = x.2.1
    · rw [addB_join c, addB_join ⟨i1.mpr c.1, i2.mpr c.2⟩]
      show _ = List.map (scX t) (B0 ++ [_])
      rw [List.map_append]
      show scB t B0 ++ [(l.1 * t, l.2.1 * t, l.2.2 * t + x.2.2 * t)] = scB t B0 ++ [(l.1 * t, l.2.1 * t, (l.2.2 + x.2.2) * t)]
      rw [Int.add_mul]
    · rw [addB_new c, addB_new fun z => c ⟨i1.mp z.1, i2.mp z.2⟩]
      show _ = List.map (scX t) ((B0 ++ [l]) ++ [x])
      rw [List.map_append, List.map_append]
      rfl
theorem adds_sc {t : Int} (ht : 0 < t) : ∀ (xs B : List Blk), addsB (scB t B) (scB t xs) = scB t (addsB B xs)
  | [], _ => rfl
  | x :: u, B => by
    show addsB (addB (scB t B) (scX t x)) (scB t u) = scB t (addsB (addB B x) u)
    rw [addB_sc ht, adds_sc ht u]
theorem brP_sc {t : Int} (ht : 0 < t) (p : Rg) (b n : Int) : brP (p.1 * t, p.2 * t + t - 1) (b * t) (n * t) = scB t (brP p b n) := by
  unfold brP
  rw [rm_sc ht]
  by_cases c : 0 < rmR p n
  · rw [if_pos c, if_pos ((pos_sc ht).mpr c)]
    rfl
  · rw [if_neg c, if_neg fun z => c ((pos_sc ht).mp z)]
    rfl
theorem brR_sc {t : Int} (ht : 0 < t) : ∀ (R : List Rg) (b n : Int), brR (scP t R) (b * t) (n * t) = scB t (brR R b n)
  | [], _, _ => rfl
  | p :: u, b, n => by
    show brP (p.1 * t, p.2 * t + t - 1) (b * t) (n * t) ++ brR (scP t u) (b * t + rmR (p.1 * t, p.2 * t + t - 1) (n * t)) (n * t - rmR (p.1 * t, p.2 * t + t - 1) (n * t)) = List.map (scX t) (brP p b n ++ brR u (b + rmR p n) (n - rmR p n))
    rw [brP_sc ht, rm_sc ht, ← Int.sub_mul, ← Int.add_mul, brR_sc ht u, List.map_append]
    rfl
theorem boR_sc {t : Int} (ht : 0 < t) : ∀ (rs : List Run) (st : Option Run) (b : Int) (R : List Rg) (B : List Blk), boR (scR t rs) (scO t st) (b * t) (scP t R) (scB t B) = scB t (boR rs st b R B)
  | [], _, _, _, _ => rfl
  | r :: u, st, b, R, B => by
    show boR (scR t u) (stepR (scO t st) r.1 (r.2 * t)) (b * t + r.2 * t) (wfR (scP t R) (leavR (scO t st) r.1 (r.2 * t)) ++ adP (scO t st) (b * t) (r.1, r.2 * t)) (addsB (scB t B) (brR (scP t R) (b * t) (leavR (scO t st) r.1 (r.2 * t)))) = scB t (boR u (stepR st r.1 r.2) (b + r.2) (wfR R (leavR st r.1 r.2) ++ adP st b r) (addsB B (brR R b (leavR st r.1 r.2))))
    rw [step_sc ht, ← Int.add_mul, leav_sc ht, wfR_sc ht, adP_sc ht, brR_sc ht, adds_sc ht]
    have e : scP t (wfR R (leavR st r.1 r.2)) ++ scP t (adP st b r) = scP t (wfR R (leavR st r.1 r.2) ++ adP st b r) := by
      unfold scP
      rw [List.map_append]
    rw [e, boR_sc ht u]
theorem blR_sc {t : Int} (ht : 0 < t) (rs : List Run) : blR (scR t rs) = scB t (blR rs) := by
  have := boR_sc ht rs none 0 [] []
  rw [Int.zero_mul] at this
  exact this
/-- the blocks of multiplied pairs -/
def lbR (t : Int) (P : List Pr) : List Blk := P.foldl (fun F p => addB F (p.1 * t, p.2 * t, t)) []
theorem lbR_snoc (t : Int) (P : List Pr) (p : Pr) : lbR t (P ++ [p]) = addB (lbR t P) (p.1 * t, p.2 * t, t) := by
  unfold lbR
  rw [List.foldl_append]
  rfl
theorem lbR_sc {t : Int} (ht : 0 < t) (P : List Pr) : lbR t P = scB t (addU [] P) := by
  have gen : ∀ (P : List Pr) (F : List Blk), P.foldl (fun F p => addB F (p.1 * t, p.2 * t, t)) (scB t F) = scB t (addU F P) := by
    intro P
    induction P with
    | nil => intro F; rfl
    | cons p u ih =>
      intro F
      have e := addB_sc ht F (p.1, p.2, 1)
      have e2 : scX t (p.1, p.2, 1) = (p.1 * t, p.2 * t, t) := by
        show (p.1 * t, p.2 * t, 1 * t) = _
        rw [Int.one_mul]
      rw [e2] at e
      show u.foldl (fun F p => addB F (p.1 * t, p.2 * t, t)) (addB (scB t F) (p.1 * t, p.2 * t, t)) = scB t (addU (addB F (p.1, p.2, 1)) u)
      rw [e, ih]
  exact gen P []
theorem lbR_len (t : Int) (P : List Pr) : (lbR t P).length ≤ P.length := by
  have gen : ∀ (P : List Pr) (F : List Blk), (P.foldl (fun F p => addB F (p.1 * t, p.2 * t, t)) F).length ≤ F.length + P.length := by
    intro P
    induction P with
    | nil => intro F; exact Nat.le_refl _
    | cons p u ih =>
      intro F
      have h1 := ih (addB F (p.1 * t, p.2 * t, t))
      have h2 := addB_len F (p.1 * t, p.2 * t, t)
      show (u.foldl (fun F p => addB F (p.1 * t, p.2 * t, t)) (addB F (p.1 * t, p.2 * t, t))).length ≤ _
      rw [List.length_cons]
      omega
  have := gen P []
  rw [List.length_nil, Nat.zero_add] at this
  exact this
theorem lbR_pos {t : Int} (ht : 0 < t) (P : List Pr) : PosB (lbR t P) := by
  have gen : ∀ (P : List Pr) (F : List Blk), PosB F → PosB (P.foldl (fun F p => addB F (p.1 * t, p.2 * t, t)) F) := by
    intro P
    induction P with
    | nil => intro F h; exact h
    | cons p u ih =>
      intro F h
      exact ih _ (fl_add (x := (p.1 * t, p.2 * t, t)) h ht).2
  exact gen P [] (fun x h => by cases h)
theorem whole_lb {rs : List Run} {t : Int} (ht : 0 < t) (k : ∀ r ∈ rs, 1 ≤ r.2) (a : Alt rs) : blR (scR t rs) = lbR t (psR [] 0 (itR rs)) := by
  rw [blR_sc ht, whole_units k a, lbR_sc ht]
/-! ### pairs of a multiplied sequence -/
def exP (t : Int) (P : List Pr) : List Pr := P.flatMap fun p => zpL (posL (p.1 * t) t.toNat) (p.2 * t)
theorem exP_cons (t : Int) (p : Pr) (P : List Pr) : exP t (p :: P) = zpL (posL (p.1 * t) t.toNat) (p.2 * t) ++ exP t P := rfl
theorem exP_app (t : Int) (P Q : List Pr) : exP t (P ++ Q) = exP t P ++ exP t Q := List.flatMap_append ..
theorem ex_zp {t : Int} (ht : 0 < t) : ∀ (c : Nat) (a b : Int), exP t (zpL (posL a c) b) = zpL (posL (a * t) (c * t.toNat)) (b * t)
  | 0, a, b => by
    rw [Nat.zero_mul]
    rfl
  | c + 1, a, b => by
    show zpL (posL (a * t) t.toNat) (b * t) ++ exP t (zpL (posL (a + 1) c) (b + 1)) = _
    rw [ex_zp ht c, Nat.succ_mul, Nat.add_comm, posL_app, zpL_app, posL_len, Int.add_mul, Int.add_mul, Int.one_mul, show ((t.toNat : Nat) : Int) = t by omega]
theorem fl_sc {t : Int} (ht : 0 < t) : ∀ (B : List Blk), PosB B → flB (scB t B) = exP t (flB B)
  | [], _ => rfl
  | x :: u, h => by
    have hx := h x (List.mem_cons_self ..)
    show flX (scX t x) ++ flB (scB t u) = exP t (flX x ++ flB u)
    rw [exP_app, fl_sc ht u fun y hy => h y (List.mem_cons_of_mem _ hy)]
    congr 1
    unfold flX
    rw [ex_zp ht]
    show zpL (posL (x.1 * t) (x.2.2 * t).toNat) (x.2.1 * t) = _
    rw [Int.toNat_mul (by omega) (by omega)]
theorem ex_len {t : Int} (P : List Pr) : (exP t P).length = P.length * t.toNat := by
  induction P with
  | nil => rw [List.length_nil, Nat.zero_mul]; rfl
  | cons p u ih => rw [exP_cons, List.length_append, ih, zpL_len, posL_len, List.length_cons, Nat.succ_mul, Nat.add_comm]
theorem ex_get {t : Int} : ∀ (P : List Pr) (i r : Nat) (p : Pr), P[i]? = some p → r < t.toNat → (exP t P)[i * t.toNat + r]? = some (p.1 * t + (r : Int), p.2 * t + (r : Int))
  | [], _, _, _, h, _ => by simp at h
  | x :: u, 0, r, p, h, hr => by
    have e : x = p := Option.some.inj h
    subst e
    rw [Nat.zero_mul, Nat.zero_add, exP_cons, List.getElem?_append_left (by rw [zpL_len, posL_len]; exact hr), zp_get _ _ _ _ hr]
  | x :: u, i + 1, r, p, h, hr => by
    have h : u[i]? = some p := h
    rw [exP_cons, List.getElem?_append_right (by rw [zpL_len, posL_len, Nat.succ_mul]; omega), zpL_len, posL_len, Nat.succ_mul, show i * t.toNat + t.toNat + r - t.toNat = i * t.toNat + r by omega]
    exact ex_get u i r p h hr
theorem ex_mem {t : Int} (ht : 0 < t) {P : List Pr} {q : Pr} (h : q ∈ exP t P) : ∃ p ∈ P, ∃ j : Int, 0 ≤ j ∧ j < t ∧ q = (p.1 * t + j, p.2 * t + j) := by
  obtain ⟨p, hp, hq⟩ := List.mem_flatMap.mp h
  have := (mem_zp _ _ _ q).mp hq
  rw [show ((t.toNat : Nat) : Int) = t by omega] at this
  exact ⟨p, hp, q.1 - p.1 * t, by omega, by omega, Prod.ext (by show q.1 = p.1 * t + (q.1 - p.1 * t); omega) (by show q.2 = p.2 * t + (q.1 - p.1 * t); omega)⟩
theorem same_item {a b j r t : Int} (ht : 0 < t) (j0 : 0 ≤ j) (j1 : j < t) (r0 : 0 ≤ r) (r1 : r < t) (e : a * t + j = b * t + r) : a = b := by
  rcases Int.lt_trichotomy a b with c | c | c
  · have := (le_sc (a := a + 1) (b := b) ht).mpr (by omega)
    rw [Int.add_mul, Int.one_mul] at this
    omega
  · exact c
  · have := (le_sc (a := b + 1) (b := a) ht).mpr (by omega)
    rw [Int.add_mul, Int.one_mul] at this
    omega
theorem ps_sorted : ∀ (ks : List Str) (ws : List Run) (n : Nat), (psR ws n ks).Pairwise fun p q => p.2 < q.2
  | [], _, _ => List.Pairwise.nil
  | k :: t, ws, n => by
    show (plP ws k n ++ psR (plS ws k n) (n + 1) t).Pairwise _
    have ih := ps_sorted t (plS ws k n) (n + 1)
    have bd := ps_snd t (plS ws k n) (n + 1)
    cases ws with
    | nil => exact ih
    | cons r u =>
      by_cases c : r.1 = k
      · rw [show plP (r :: u) k n = [] from if_pos c]
        exact ih
      · rw [show plP (r :: u) k n = [(r.2, (n : Int))] from if_neg c]
        refine List.Pairwise.cons (fun q hq => ?_) ih
        have := bd q hq
        show (n : Int) < q.2
        omega
theorem sorted_at : ∀ {P : List Pr} {k : Nat} {p : Pr}, P.Pairwise (fun p q => p.2 < q.2) → P[k]? = some p → (P.filter fun q => decide (q.2 < p.2)).length = k
  | x :: t, 0, p, h, e => by
    have e : x = p := Option.some.inj e
    subst e
    have h := List.pairwise_cons.mp h
    rw [List.length_eq_zero_iff, List.filter_eq_nil_iff]
    intro q hq z
    have z := of_decide_eq_true z
    rcases List.mem_cons.mp hq with w | w
    · rw [w] at z
      omega
    · have := h.1 q w
      omega
  | x :: t, k + 1, p, h, e => by
    have e : t[k]? = some p := e
    have h := List.pairwise_cons.mp h
    have lt := h.1 p (List.mem_of_getElem? e)
    rw [List.filter_cons, if_pos (decide_eq_true lt), List.length_cons, sorted_at h.2 e]
theorem scR_pos {t : Int} {rs : List Run} (t1 : 1 ≤ t) (k : ∀ r ∈ rs, 1 ≤ r.2) : ∀ r ∈ scR t rs, 1 ≤ r.2 := by
  intro r hr
  obtain ⟨x, hx, rfl⟩ := List.mem_map.mp hr
  have c1 := k x hx
  show 1 ≤ x.2 * t
  have := Int.mul_le_mul c1 t1 (by decide) (by omega)
  omega
theorem scR_alt {t : Int} {rs : List Run} (a : Alt rs) : Alt (scR t rs) := by
  intro i x y hx hy
  unfold scR at hx hy
  rw [List.getElem?_map] at hx hy
  cases e1 : rs[i]? with
  | none => rw [e1] at hx; cases hx
  | some a' =>
    cases e2 : rs[i + 1]? with
    | none => rw [e2] at hy; cases hy
    | some b' =>
      rw [e1] at hx
      rw [e2] at hy
      cases hx
      cases hy
      exact a i a' b' e1 e2
/-- all that is told of a multiplied sequence's pairs -/
structure Mul (t : Int) (rs : List Run) : Prop where
  lb : blR (scR t rs) = lbR t (psR [] 0 (itR rs))
  fl : flB (blR (scR t rs)) = exP t (psR [] 0 (itR rs))
  ps : psR [] 0 (itR (scR t rs)) = exP t (psR [] 0 (itR rs))
  pb : PosB (blR (scR t rs))
theorem mul_of {t : Int} {rs : List Run} (t1 : 1 ≤ t) (k : ∀ r ∈ rs, 1 ≤ r.2) (a : Alt rs) : Mul t rs := by
  have ht : 0 < t := by omega
  obtain ⟨w1, w2⟩ := whole_pairs k a
  obtain ⟨v1, v2⟩ := whole_pairs (scR_pos t1 k) (scR_alt (t := t) a)
  have f : flB (blR (scR t rs)) = exP t (psR [] 0 (itR rs)) := by rw [blR_sc ht, fl_sc ht _ w2, w1]
  exact ⟨whole_lb ht k a, f, by rw [← v1, f], v2⟩
theorem pc_count {rs : List Run} {k : Nat} {p : Pr} (pos : ∀ r ∈ rs, 1 ≤ r.2) (h : (psR [] 0 (itR rs))[k]? = some p) : 0 ≤ p.2 ∧ p.2 < lenR rs ∧ pcR rs p.2 = (k : Int) := by
  have b := ps_snd _ _ _ p (List.mem_of_getElem? h)
  have l := len_it rs pos
  have pm : ((p.2.toNat : Nat) : Int) = p.2 := by omega
  have e1 := pc_at (m := p.2.toNat) pos (by omega)
  rw [pm] at e1
  refine ⟨by omega, by omega, ?_⟩
  rw [e1, ← ps_filter _ _ (by omega), pm, sorted_at (ps_sorted _ _ _) h]
theorem pair_in {rs : List Run} {p : Pr} (pos : ∀ r ∈ rs, 1 ≤ r.2) (h : p ∈ psR [] 0 (itR rs)) : 0 ≤ p.1 ∧ p.1 < lenR rs ∧ 0 ≤ p.2 ∧ p.2 < lenR rs := by
  have l := len_it rs pos
  have pm := ps_perm (itR rs) [] 0
  have b1 := posL_ge _ _ p.1 (pm.mem_iff.mp (List.mem_append.mpr (.inl (List.mem_map.mpr ⟨p, h, rfl⟩))))
  have b2 := posL_ge _ _ p.2 (pm.mem_iff.mp (List.mem_append.mpr (.inr (List.mem_append.mpr (.inl (List.mem_map.mpr ⟨p, h, rfl⟩))))))
  omega
theorem wait_in {rs : List Run} {r : Run} (pos : ∀ r ∈ rs, 1 ≤ r.2) (h : r ∈ plA [] 0 (itR rs)) : 0 ≤ r.2 ∧ r.2 < lenR rs ∧ ∀ p ∈ psR [] 0 (itR rs), p.1 ≠ r.2 ∧ p.2 ≠ r.2 := by
  have l := len_it rs pos
  have pm := ps_perm (itR rs) [] 0
  have hr : r.2 ∈ psW (plA [] 0 (itR rs)) := List.mem_map.mpr ⟨r, h, rfl⟩
  have b1 := posL_ge _ _ r.2 (pm.mem_iff.mp (List.mem_append.mpr (.inr (List.mem_append.mpr (.inr hr)))))
  refine ⟨by omega, by omega, fun p hp => ?_⟩
  obtain ⟨_, h2, h3⟩ := List.nodup_append.mp (ps_nodup (itR rs))
  obtain ⟨_, _, h6⟩ := List.nodup_append.mp h2
  exact ⟨h3 _ (List.mem_map.mpr ⟨p, hp, rfl⟩) _ (List.mem_append.mpr (.inr hr)), h6 _ (List.mem_map.mpr ⟨p, hp, rfl⟩) _ hr⟩
end UP

set_option Elab.async false
set_option linter.all false
set_option maxRecDepth 100000
set_option maxHeartbeats 4000000
set_option pp.maxSteps 300
namespace UP
open PySem PySem.Spec PyProof.Rows L2
/-! ### the bag: a list of the cells, the next one, the rest of a large one, the number of draws, a mixed number -/
structure BagS where
  ns : List Int
  i : Int
  r : Int
  d : Int
  t : Int
def Bag (H : Hp) (p cl : Addr) (n : Nat) : Prop := ∃ b : BagS, H p = some (.lst [.ref cl, .int b.i, .int b.r, .int b.d, .int b.t]) ∧ H cl = some (.lst (b.ns.map V.int)) ∧ b.ns.length ≤ 63 ∧ 0 ≤ b.i ∧ b.i ≤ b.ns.length ∧ 0 ≤ b.r ∧ 0 ≤ b.d ∧ b.d ≤ n ∧ 0 ≤ b.t ∧ b.t < 2305843009213693951
theorem Bag.same {H H' : Hp} {p cl : Addr} {n : Nat} (z : Bag H p cl n) (s : Same H H') : Bag H' p cl n := by
  obtain ⟨b, h1, h2, r⟩ := z
  exact ⟨b, s _ _ h1, s _ _ h2, r⟩
theorem Bag.mono {H : Hp} {p cl : Addr} {n m : Nat} (z : Bag H p cl n) (l : n ≤ m) : Bag H p cl m := by
  obtain ⟨b, h1, h2, h3, h4, h5, h6, h7, h8, h9⟩ := z
  exact ⟨b, h1, h2, h3, h4, h5, h6, h7, by omega, h9⟩
theorem Bag.ne {H : Hp} {p cl q : Addr} {n : Nat} (z : Bag H p cl n) (h : H q = none) : q ≠ p := by
  obtain ⟨b, h1, _⟩ := z
  exact (ne_of_none h1 h).symm
theorem bag_ints {cl : Addr} {a b c d : Int} {ns : List Int} : HO.lst (ns.map V.int) ≠ .lst [.ref cl, .int a, .int b, .int c, .int d] := by
  intro q
  cases ns with
  | nil => cases q
  | cons x t => cases q
theorem Bag.cl_ne {H : Hp} {p cl : Addr} {n : Nat} (z : Bag H p cl n) : cl ≠ p := by
  obtain ⟨b, h1, h2, _⟩ := z
  exact ne_of h2 h1 bag_ints
/-- what is kept apart from the bag's list keeps the bag -/
theorem Bag.keep {H H' : Hp} {p cl : Addr} {n : Nat} (z : Bag H p cl n) (k : ∀ o, H p = some o → H' p = some o) (c : ∀ o, H cl = some o → H' cl = some o) : Bag H' p cl n := by
  obtain ⟨b, h1, h2, r⟩ := z
  exact ⟨b, k _ h1, c _ h2, r⟩
theorem at50 {α : Type} {x y z u w : α} : atI [x, y, z, u, w] 0 = some x := rfl
theorem at51 {α : Type} {x y z u w : α} : atI [x, y, z, u, w] 1 = some y := rfl
theorem at52 {α : Type} {x y z u w : α} : atI [x, y, z, u, w] 2 = some z := rfl
theorem at53 {α : Type} {x y z u w : α} : atI [x, y, z, u, w] 3 = some u := rfl
theorem at54 {α : Type} {x y z u w : α} : atI [x, y, z, u, w] 4 = some w := rfl
theorem atI_ofB {α : Type} {l : List α} {i : Int} {x : α} (h0 : 0 ≤ i) (h : l[i.toNat]? = some x) : atI l i = some x := by
  have : i < l.length := by
    obtain ⟨q, _⟩ := List.getElem?_eq_some_iff.mp h
    omega
  unfold atI ixN
  rw [if_pos h0, if_pos (by omega)]
  exact h
theorem p18 : (10 : Int) ^ ((18 : Int).toNat) = 1000000000000000000 := by decide +kernel
theorem wideB {m : Int} (h0 : 0 ≤ m) (h1 : m ≤ 1000000000000000000000000000000000000000000000000000000000000) : m.natAbs < 2 ^ 8000 :=
  Nat.lt_of_le_of_lt (m := 1000000000000000000000000000000000000000000000000000000000000) (by omega) (by decide +kernel)
section
variable {P : Program} {w : World} {K : PySem.W.Frag} {mg : Str → Option Value} {base : Heap}
/-! _law_bag: slots 0:script 1:total 2:cell -/
abbrev s_law_bag : Stmt := topS 44
theorem sc_law_bag : FnScope ["script", "total", "cell"] ["script"] (defScope s_law_bag) := ⟨rfl, rfl, rfl, by decide +kernel, rfl, by decide +kernel, by decide +kernel⟩
def sp_law_bag (K : PySem.W.Frag) : Sp := fun vs H Q _ => ∃ (a : Addr) (ns : List Int), vs = [.ref a] ∧ SqL K H a (ns.map V.int) ∧ ns.length ≤ 63 ∧ ∀ H' p cl, Same H H' → H p = none → H cl = none → Bag H' p cl 0 → Q (.ref p) H'
theorem ok_law_bag (D : Df K mg "_law_bag" s_law_bag) (T : Tx mg) : Has P w K mg base 1 "_law_bag" ["script"] (sp_law_bag K) := by
  refine has_of D sc_law_bag (fun _ _ _ _ _ _ us hl => match us, hl with | [_], _ => rfl) (fun vs H Q E h => ?_) (fun f cdv A outer s₀ H vs Q E hr h => ?_)
  · obtain ⟨_, _, rfl, _⟩ := h
    rfl
  · obtain ⟨a, ns, rfl, hS, l63, q⟩ := h
    refine ⟨_, (pss_cons (ps_set (i := 1) sc_law_bag.nd rfl (by first | exact Or.inl rfl | exact Or.inr rfl) pe_int)
    (pss_cons (ps_for PassesOwn.never rfl (pi_list (pv 0)) (pg_name (i := 2) sc_law_bag.nd rfl (by first | exact Or.inl rfl | exact Or.inr rfl))
      (pss_one (ps_set (i := 1) sc_law_bag.nd rfl (by first | exact Or.inl rfl | exact Or.inr rfl) (pe_op op_mod (pe_op op_add (pe_op op_add (pe_op op_mul (pv 1) pe_int) (pe_op op_mod (pv 2) pe_int)) pe_int) pe_int))))
    (pss_one (ps_ret (pe_lst (pa_cons (pe_callTy call_list_of (by rfl) T.n_list (by decide +kernel) (pa_cons (pv 0) pa_nil)) (pa_cons pe_int (pa_cons pe_int (pa_cons pe_int (pa_cons (pv 1) pa_nil)))))))))), ?_⟩
    refine ⟨_, rfl, a, rfl, ⟨_, hS⟩, for_list (K := K) (a := a) (xs := ns.map V.int) (fun i σ H' => ∃ (t : Int) (y : Option V), σ = [some (.ref a), some (.int t), y] ∧ H' = H ∧ 0 ≤ t ∧ t < 2305843009213693951)
      ⟨1, none, rfl, rfl, by decide, by decide⟩ (fun i σ H' _ hP => ?_) (fun i x σ H1 ex hP => ?_) (fun σ H1 hP => ?_)⟩
    · obtain ⟨_, _, _, rfl, _⟩ := hP
      exact hS
    · obtain ⟨t, y, rfl, rfl, t0, t1⟩ := hP
      rw [List.getElem?_map] at ex
      cases e : ns[i]? with
      | none =>
        rw [e] at ex
        cases ex
      | some c =>
        rw [e] at ex
        cases ex
        refine ⟨_, rfl, _, _, rfl, rfl, .inr ⟨by decide, by decide⟩, _, rfl, _, _, rfl, rfl, (by show (0 : Int) < _; decide), _, _, rfl, rfl, _, _, rfl, rfl, _, _, rfl, rfl, (by show (0 : Int) < _; decide), ?_⟩
        exact ⟨_, _, rfl, rfl, Int.emod_nonneg _ (by decide), Int.emod_lt_of_pos _ (by decide)⟩
    · obtain ⟨t, y, rfl, rfl, t0, t1⟩ := hP
      refine ⟨_, rfl, a, _, rfl, .inl hS, fun cl ncl => ⟨_, rfl, (by show 5 ≤ sizeLine; decide), fun p np => ?_⟩⟩
      have s1 := same_upd (o := .lst (ns.map V.int)) ncl
      have s2 := same_upd (o := .lst [.ref cl, .int 0, .int 0, .int 0, .int t]) np
      exact q _ p cl (s1.trans s2) (s1.free np) ncl ⟨⟨ns, 0, 0, 0, t⟩, upd_same, s2 _ _ upd_same, l63, Int.le_refl _, by show (0 : Int) ≤ _; omega, Int.le_refl _, Int.le_refl _, by show (0 : Int) ≤ ((0 : Nat) : Int); decide, t0, t1⟩
/-! _law_stir: slots 0:number 1:place 2:one 3:two -/
abbrev s_law_stir : Stmt := topS 45
theorem sc_law_stir : FnScope ["number", "place", "one", "two"] ["number", "place"] (defScope s_law_stir) := ⟨rfl, rfl, rfl, by decide +kernel, rfl, by decide +kernel, by decide +kernel⟩
def sp_law_stir : Sp := fun vs H Q _ => ∃ (a d : Int), vs = [.int a, .int d] ∧ 0 ≤ a ∧ a < 2305843009213693951 ∧ 0 ≤ d ∧ d ≤ 1000000000000000 ∧ ∀ r, Q (.int r) H
theorem ok_law_stir (D : Df K mg "_law_stir" s_law_stir) (T : Tx mg) : Has P w K mg base 1 "_law_stir" ["number", "place"] sp_law_stir := by
  refine has_of D sc_law_stir (fun _ _ _ _ _ _ us hl => match us, hl with | [_, _], _ => rfl) (fun vs H Q E h => ?_) (fun f cdv A outer s₀ H vs Q E hr h => ?_)
  · obtain ⟨_, _, rfl, _⟩ := h
    rfl
  · obtain ⟨a, d, rfl, a0, a1, d0, d1, q⟩ := h
    refine ⟨_, (pss_cons (ps_set (i := 2) sc_law_stir.nd rfl (by first | exact Or.inl rfl | exact Or.inr rfl) (pe_op op_mod (pe_op op_add (pe_op op_add (pe_op op_mul (pv 0) pe_int) (pe_op op_mul (pv 1) pe_int)) pe_int) pe_int))
    (pss_cons (ps_set (i := 3) sc_law_stir.nd rfl (by first | exact Or.inl rfl | exact Or.inr rfl) (pe_op op_mod (pe_op op_mul (pv 2) (pv 2)) pe_int))
    (pss_one (ps_ret (pe_op op_fdiv (pe_op op_mod (pe_op op_add (pe_op op_add (pe_op op_mul (pv 3) pe_int) (pe_op op_mul (pe_op op_mul (pv 1) (pv 1)) pe_int)) (pe_op op_fdiv (pv 2) pe_int)) pe_int) pe_int))))), ?_⟩
    refine ⟨_, rfl, _, _, rfl, rfl, .inr ⟨by decide, by decide⟩, _, rfl, _, _, rfl, rfl, .inr ⟨by decide, by decide⟩, _, _, rfl, rfl, _, _, rfl, rfl, _, _, rfl, rfl, (by show (0 : Int) < _; decide), ?_⟩
    have e0 := Int.emod_nonneg (a * 998244353 + d * 1000000007 + 5) (b := 2305843009213693951) (by decide)
    have e1 := Int.emod_lt_of_pos (a * 998244353 + d * 1000000007 + 5) (b := 2305843009213693951) (by decide)
    generalize (a * 998244353 + d * 1000000007 + 5) % 2305843009213693951 = one at *
    refine ⟨_, rfl, _, rfl, _, _, rfl, rfl, .inl ⟨by omega, by omega⟩, _, _, rfl, rfl, (by show (0 : Int) < _; decide), ?_⟩
    refine ⟨_, rfl, _, _, rfl, rfl, .inr ⟨by decide, by decide⟩, _, rfl, _, rfl, _, _, rfl, rfl, .inl ⟨by omega, by omega⟩, _, _, rfl, rfl, .inr ⟨by decide, by decide⟩, _, _, rfl, rfl, _, rfl, _, _, rfl, rfl, ⟨by decide, by decide⟩, _, _, rfl, rfl, _, _, rfl, rfl, (by show (0 : Int) < _; decide), _, _, rfl, rfl, ⟨by decide, by decide⟩, q _⟩
/-! _law_draw: slots 0:bag 1:bound 2:found 3:cell -/
abbrev s_law_draw : Stmt := topS 46
theorem sc_law_draw : FnScope ["bag", "bound", "found", "cell"] ["bag", "bound"] (defScope s_law_draw) := ⟨rfl, rfl, rfl, by decide +kernel, rfl, by decide +kernel, by decide +kernel⟩
def sp_law_draw : Sp := fun vs H Q _ => ∃ (p cl : Addr) (n : Nat) (m : Int), vs = [.ref p, .int m] ∧ Bag H p cl n ∧ n + 1 ≤ 1000000000000000 ∧ 1 ≤ m ∧ m.natAbs < 2 ^ 8000 ∧ ∀ H' r, But p H H' → Bag H' p cl (n + 1) → 0 ≤ r → r < m → Q (.int r) H'
theorem ok_law_draw (D : Df K mg "_law_draw" s_law_draw) (T : Tx mg) (G_law_stir : Has P w K mg base 1 "_law_stir" ["number", "place"] sp_law_stir) : Has P w K mg base 2 "_law_draw" ["bag", "bound"] sp_law_draw := by
  refine has_of D sc_law_draw (fun _ _ _ _ _ _ us hl => match us, hl with | [_, _], _ => rfl) (fun vs H Q E h => ?_) (fun f cdv A outer s₀ H vs Q E hr h => ?_)
  · obtain ⟨_, _, _, _, rfl, _⟩ := h
    rfl
  · obtain ⟨p, cl, n, m, rfl, z, nb, m1, m2, q⟩ := h
    have z0 := z
    have cp := z.cl_ne
    obtain ⟨⟨ns, i, r, d, t⟩, hp, hc, l63, i0, i1, r0, d0, d1, t0, t1⟩ := z
    have hp : H p = some (.lst [.ref cl, .int i, .int r, .int d, .int t]) := hp
    have hc : H cl = some (.lst (ns.map V.int)) := hc
    have l63 : ns.length ≤ 63 := l63
    have i0 : 0 ≤ i := i0
    have i1 : i ≤ ns.length := i1
    have r0 : 0 ≤ r := r0
    have d0 : 0 ≤ d := d0
    have d1 : d ≤ n := d1
    have t0 : 0 ≤ t := t0
    have t1 : t < 2305843009213693951 := t1
    have e0 : ∀ x : Int, 0 ≤ x % m := fun x => Int.emod_nonneg _ (by omega)
    have e1 : ∀ x : Int, x % m < m := fun x => Int.emod_lt_of_pos _ (by omega)
    refine ⟨_, (pss_cons (ps_if (pt_cmpR op_eq (pv 1) pe_int (nomark _)) (pss_one (ps_ret pe_int)) pss_nil)
    (pss_cons (ps_asg (pe_op op_add (pe_ix ix_list (pv 0) pe_int (fun _ _ => rfl)) pe_int) (pg_sub (pv 0) pe_int set_list))
    (pss_cons (ps_if (PW.pt (pw_and (pt_cmpR op_lt (pe_ix ix_list (pv 0) pe_int (fun _ _ => rfl)) pe_int (nomark _)) (pw_and1 (pt_cmpR op_eq (pe_ix ix_list (pv 0) pe_int (fun _ _ => rfl)) (pe_callB call_len_seq (by rfl) T.n_len (by decide +kernel) (pa_cons (pe_ix ix_list (pv 0) pe_int (fun _ _ => rfl)) pa_nil)) (nomark _))))) (pss_one (ps_ret (pe_op op_mod (pe_callH G_law_stir (hr.mono (by omega)) (by rfl) (pa_cons (pe_ix ix_list (pv 0) pe_int (fun _ _ => rfl)) (pa_cons (pe_ix ix_list (pv 0) pe_int (fun _ _ => rfl)) pa_nil))) (pv 1)))) pss_nil)
    (C8.pss_cut (ps_if (pt_cmpR op_lt (pe_ix ix_list (pv 0) pe_int (fun _ _ => rfl)) pe_int (nomark _)) (pss_cons (ps_set (i := 3) sc_law_draw.nd rfl (by first | exact Or.inl rfl | exact Or.inr rfl) (pe_ix ix_list (pe_ix ix_list (pv 0) pe_int (fun _ _ => rfl)) (pe_ix ix_list (pv 0) pe_int (fun _ _ => rfl)) (fun _ _ => rfl)))
    (pss_cons (ps_asg (pe_op op_add (pe_ix ix_list (pv 0) pe_int (fun _ _ => rfl)) pe_int) (pg_sub (pv 0) pe_int set_list))
    (pss_cons (ps_if (pt_cmpR op_lt (pv 3) (pe_op op_pow pe_int pe_int) (nomark _)) (pss_one (ps_ret (pe_op op_mod (pe_callH G_law_stir (hr.mono (by omega)) (by rfl) (pa_cons (pe_op op_mod (pv 3) pe_int) (pa_cons (pe_ix ix_list (pv 0) pe_int (fun _ _ => rfl)) pa_nil))) (pv 1)))) pss_nil)
    (pss_one (ps_asg (pe_op op_sub (pv 3) (pe_op op_pow pe_int pe_int)) (pg_sub (pv 0) pe_int set_list)))))) pss_nil)
    (pss_cons (ps_set (i := 2) sc_law_draw.nd rfl (by first | exact Or.inl rfl | exact Or.inr rfl) (pe_op op_mod (pe_ix ix_list (pv 0) pe_int (fun _ _ => rfl)) (pv 1)))
    (pss_cons (ps_asg (pe_op op_fdivW (pe_ix ix_list (pv 0) pe_int (fun _ _ => rfl)) (pv 1)) (pg_sub (pv 0) pe_int set_list))
    (pss_one (ps_ret (pv 2))))))))), ?_⟩
    refine ⟨_, rfl, rfl, _, rfl, ite2 (fun _ => ?_) (fun _ => ?_)⟩
    · exact q _ _ But.refl (z0.mono (Nat.le_succ _)) (Int.le_refl _) (by omega)
    refine ⟨_, rfl, p, _, 3, _, rfl, rfl, .of hp, at53, _, _, rfl, rfl, _, rfl, p, _, 3, 3, rfl, rfl, hp, rfl, ?_⟩
    have B1 : But p H (upd H p (.lst [.ref cl, .int i, .int r, .int (d + 1), .int t])) := but_upd
    have hp1 : (upd H p (.lst [.ref cl, .int i, .int r, .int (d + 1), .int t])) p = some (.lst [.ref cl, .int i, .int r, .int (d + 1), .int t]) := upd_same
    have hc1 := B1 _ _ cp hc
    show tSeq _ _ _ _ (upd H p (.lst [.ref cl, .int i, .int r, .int (d + 1), .int t]))
    generalize upd H p (.lst [.ref cl, .int i, .int r, .int (d + 1), .int t]) = H1 at *
    have lm : (ns.map V.int).length = ns.length := List.length_map ..
    have mk : ∀ (H' : Hp) (i' r' : Int), But p H1 H' → H' p = some (.lst [.ref cl, .int i', .int r', .int (d + 1), .int t]) → 0 ≤ i' → i' ≤ ns.length → 0 ≤ r' → But p H H' ∧ Bag H' p cl (n + 1) := fun H' i' r' b hb j0 j1 k0 =>
      ⟨B1.trans b, ⟨ns, i', r', d + 1, t⟩, hb, b _ _ cp hc1, l63, j0, j1, k0, by show 0 ≤ d + 1; omega, by show d + 1 ≤ ((n + 1 : Nat) : Int); omega, t0, t1⟩
    have out : ∀ (H' : Hp) (i' r' x : Int), But p H1 H' → H' p = some (.lst [.ref cl, .int i', .int r', .int (d + 1), .int t]) → 0 ≤ i' → i' ≤ ns.length → 0 ≤ r' → Q (.int (x % m)) H' := fun H' i' r' x b hb j0 j1 k0 => by
      obtain ⟨k1, k2⟩ := mk H' i' r' b hb j0 j1 k0
      exact q _ _ k1 k2 (e0 x) (e1 x)
    refine ⟨_, rfl, p, _, 2, _, rfl, rfl, .of hp1, at52, _, _, rfl, rfl, _, rfl, ?_⟩
    have rest : ∀ (H2 : Hp) (i' r' : Int), But p H1 H2 → H2 p = some (.lst [.ref cl, .int i', .int r', .int (d + 1), .int t]) → 0 ≤ i' → i' ≤ ns.length → 0 ≤ r' →
        ∀ H3, H3 = upd H2 p (.lst [.ref cl, .int i', .int (r' / m), .int (d + 1), .int t]) → Q (.int (r' % m)) H3 := fun H2 i' r' b hb j0 j1 k0 H3 e3 => by
      subst e3
      exact out _ i' (r' / m) r' (b.trans but_upd) upd_same j0 j1 (Int.ediv_nonneg k0 (by omega))
    by_cases c2 : r < 2
    · refine iteP (decide_eq_true c2) ⟨_, rfl, p, _, 1, _, rfl, rfl, .of hp1, at51, _, rfl, p, _, 0, _, rfl, rfl, .of hp1, at50, cl, _, rfl, .inl (.of hc1), rfl, _, rfl, ?_⟩
      rw [lm]
      by_cases ci : i = ns.length
      · refine iteP (decide_eq_true (by rw [ci])) ⟨_, rfl, p, _, 4, _, rfl, rfl, .of hp1, at54, _, rfl, p, _, 3, _, rfl, rfl, .of hp1, at53, t, d + 1, rfl, t0, t1, by omega, by omega, fun x => ⟨_, rfl, _, _, rfl, rfl, (by omega), ?_⟩⟩
        exact out _ i r x But.refl hp1 i0 i1 r0
      · have ci2 : i < ns.length := by omega
        refine iteN (decide_eq_false (fun z => ci (V.int.inj z))) ?_
        obtain ⟨c, ec⟩ : ∃ c, ns[i.toNat]? = some c := ⟨_, List.getElem?_eq_getElem (by omega)⟩
        have eci : atI (ns.map V.int) i = some (.int c) := atI_ofB i0 (by rw [List.getElem?_map, ec]; rfl)
        refine ⟨fun σ' H' => ∃ i' r' y3, σ' = [some (.ref p), some (.int m), none, y3] ∧ But p H1 H' ∧ H' p = some (.lst [.ref cl, .int i', .int r', .int (d + 1), .int t]) ∧ 0 ≤ i' ∧ i' ≤ ns.length ∧ 0 ≤ r', ?_, fun σ' H2 hM => ?_⟩
        · refine ⟨_, rfl, p, _, 2, _, rfl, rfl, .of hp1, at52, _, _, rfl, rfl, _, rfl, iteP (decide_eq_true c2) ?_⟩
          refine ⟨_, rfl, p, _, 0, _, rfl, rfl, .of hp1, at50, _, rfl, p, _, 1, _, rfl, rfl, .of hp1, at51, cl, _, i, _, rfl, rfl, .of hc1, eci, ?_⟩
          refine ⟨_, rfl, p, _, 1, _, rfl, rfl, .of hp1, at51, _, _, rfl, rfl, _, rfl, p, _, 1, 1, rfl, rfl, hp1, rfl, ?_⟩
          have B2 : But p H1 (upd H1 p (.lst [.ref cl, .int (i + 1), .int r, .int (d + 1), .int t])) := but_upd
          have hp2 : (upd H1 p (.lst [.ref cl, .int (i + 1), .int r, .int (d + 1), .int t])) p = some (.lst [.ref cl, .int (i + 1), .int r, .int (d + 1), .int t]) := upd_same
          show tSeq _ _ _ _ (upd H1 p (.lst [.ref cl, .int (i + 1), .int r, .int (d + 1), .int t]))
          generalize upd H1 p (.lst [.ref cl, .int (i + 1), .int r, .int (d + 1), .int t]) = H2 at *
          refine ⟨_, rfl, _, _, rfl, rfl, ⟨by decide, by decide, by decide⟩, _, _, rfl, rfl, _, rfl, ite2 (fun c3 => ?_) (fun c3 => ?_)⟩
          · refine ⟨_, rfl, _, _, rfl, rfl, (by show (0 : Int) < _; decide), _, rfl, p, _, 3, _, rfl, rfl, .of hp2, at53, _, d + 1, rfl, Int.emod_nonneg _ (by decide), Int.emod_lt_of_pos _ (by decide), by omega, by omega, fun x => ⟨_, rfl, _, _, rfl, rfl, (by omega), ?_⟩⟩
            exact out _ (i + 1) r x B2 hp2 (by omega) (by omega) r0
          · have c3 : ¬ c < (10 : Int) ^ ((18 : Int).toNat) := fun z => c3 (decide_eq_true z)
            refine ⟨_, rfl, _, _, rfl, rfl, ⟨by decide, by decide, by decide⟩, _, _, rfl, rfl, _, rfl, p, _, 2, 2, rfl, rfl, hp2, rfl, ?_⟩
            exact ⟨i + 1, _, _, rfl, B2.trans but_upd, upd_same, by omega, by omega, by omega⟩
        · obtain ⟨i', r', y3, rfl, b2, hp2, j0, j1, k0⟩ := hM
          refine ⟨_, rfl, p, _, 2, _, rfl, rfl, .of hp2, at52, _, rfl, _, _, rfl, rfl, (by omega), ?_⟩
          refine ⟨_, rfl, p, _, 2, _, rfl, rfl, .of hp2, at52, _, rfl, _, _, rfl, rfl, wide_div (by omega) m2 (by decide) (by decide), _, rfl, p, _, 2, 2, rfl, rfl, hp2, rfl, ?_⟩
          exact ⟨_, rfl, rest H2 i' r' b2 hp2 j0 j1 k0 _ rfl⟩
    · refine iteN (decide_eq_false c2) ?_
      refine ⟨fun σ' H' => σ' = [some (.ref p), some (.int m), none, none] ∧ H' = H1, ?_, fun σ' H2 hM => ?_⟩
      · exact ⟨_, rfl, p, _, 2, _, rfl, rfl, .of hp1, at52, _, _, rfl, rfl, _, rfl, iteN (decide_eq_false c2) ⟨rfl, rfl⟩⟩
      · obtain ⟨rfl, rfl⟩ := hM
        refine ⟨_, rfl, p, _, 2, _, rfl, rfl, .of hp1, at52, _, rfl, _, _, rfl, rfl, (by omega), ?_⟩
        refine ⟨_, rfl, p, _, 2, _, rfl, rfl, .of hp1, at52, _, rfl, _, _, rfl, rfl, wide_div (by omega) m2 (by decide) (by decide), _, rfl, p, _, 2, 2, rfl, rfl, hp1, rfl, ?_⟩
        exact ⟨_, rfl, rest _ i r But.refl hp1 i0 i1 r0 _ rfl⟩
end
end UP

set_option Elab.async false
set_option linter.all false
set_option maxRecDepth 100000
set_option maxHeartbeats 4000000
set_option pp.maxSteps 300
namespace UP
open PySem PySem.Spec PyProof.Rows L2
/-! ### ranges, also such that grow -/
def adR (R : List Rg) (f l : Int) : List Rg := match R.getLast? with
  | none => R ++ [(f, l)]
  | some z => if z.2 + 1 = f then R.dropLast ++ [(z.1, l)] else R ++ [(f, l)]
def rarR (R : List Rg) (b c n : Int) : List Rg := if n < c then adR (wfR R n) (b + n) (b + c - 1) else wfR R n
theorem adR_len (R : List Rg) (f l : Int) : (adR R f l).length ≤ R.length + 1 := by
  unfold adR
  split
  · rw [List.length_append]
    exact Nat.le_refl _
  · split
    · rw [List.length_append, List.length_dropLast]
      show R.length - 1 + 1 ≤ _
      omega
    · rw [List.length_append]
      exact Nat.le_refl _
theorem rarR_len (R : List Rg) (b c n : Int) : (rarR R b c n).length ≤ R.length + 1 := by
  have := wfR_len R n
  unfold rarR
  split
  · have := adR_len (wfR R n) (b + n) (b + c - 1)
    omega
  · omega
/-- the first n positions of a range, of ranges -/
def ofP (p : Rg) (n : Int) : List Rg := if 0 < rmR p n then [(p.1, p.1 + rmR p n - 1)] else []
def ofR : List Rg → Int → List Rg
  | [], _ => []
  | p :: t, n => ofP p n ++ ofR t (n - rmR p n)
theorem ofR_snoc : ∀ (l : List Rg) (p : Rg) (n : Int), ofR (l ++ [p]) n = ofR l n ++ ofP p (wfN l n)
  | [], p, n => by
    show ofP p n ++ [] = [] ++ ofP p n
    rw [List.append_nil, List.nil_append]
  | x :: t, p, n => by
    show ofP x n ++ ofR (t ++ [p]) (n - rmR x n) = (ofP x n ++ ofR t (n - rmR x n)) ++ ofP p (wfN t (n - rmR x n))
    rw [ofR_snoc t, List.append_assoc]
theorem ofP_len (p : Rg) (n : Int) : (ofP p n).length ≤ 1 := by
  unfold ofP
  split <;> simp
theorem ofR_len : ∀ (R : List Rg) (n : Int), (ofR R n).length ≤ R.length
  | [], _ => Nat.le_refl _
  | p :: t, n => by
    show (ofP p n ++ ofR t (n - rmR p n)).length ≤ t.length + 1
    rw [List.length_append]
    have h1 := ofP_len p n
    have h2 := ofR_len t (n - rmR p n)
    omega
section
variable {P : Program} {w : World} {K : PySem.W.Frag} {mg : Str → Option Value} {base : Heap}
/-! check_kind: slots 0:kind -/
abbrev s_check_kind : Stmt := topS 28
theorem sc_check_kind : FnScope ["kind"] ["kind"] (defScope s_check_kind) := ⟨rfl, rfl, rfl, by decide +kernel, rfl, by decide +kernel, by decide +kernel⟩
def sp_check_kind : Sp := fun vs H Q _ => ∃ k : Str, vs = [.str k] ∧ KindOk k ∧ ∀ H', Same H H' → Q .non H'
theorem ok_check_kind (D : Df K mg "check_kind" s_check_kind) (G_is_kind : Has P w K mg base 1 "is_kind" ["value"] sp_is_kind) : Has P w K mg base 2 "check_kind" ["kind"] sp_check_kind := by
  refine has_of D sc_check_kind (fun _ _ _ _ _ _ us hl => match us, hl with | [_], _ => rfl) (fun vs H Q E h => ?_) (fun f cdv A outer s H vs Q E hr h => ?_)
  · obtain ⟨v, rfl, _⟩ := h
    rfl
  · obtain ⟨k, rfl, ok, q⟩ := h
    refine ⟨_, (pss_one (ps_if (pt_not (pt_val (pe_callH G_is_kind (hr.mono (by omega)) (by rfl) (pa_cons (pv 0) pa_nil)))) (pss_one ps_never) pss_nil)), ?_⟩
    exact ⟨_, rfl, k, rfl, ok, fun H1 s1 => ⟨_, rfl, iteF (q _ s1)⟩⟩
/-! only_first: slots 0:ranges 1:number 2:kept 3:first 4:last 5:size -/
abbrev s_only_first : Stmt := topS 35
theorem sc_only_first : FnScope ["ranges", "number", "kept", "first", "last", "size"] ["ranges", "number"] (defScope s_only_first) := ⟨rfl, rfl, rfl, by decide +kernel, rfl, by decide +kernel, by decide +kernel⟩
def sp_only_first : Sp := fun vs H Q _ => ∃ (a : Addr) (R : List Rg) (n : Int), vs = [.ref a, .int n] ∧ Rngs H a R ∧ R.length ≤ 100000 ∧ ∀ H' p, Same H H' → H p = none → Rngs H' p (ofR R n) → Q (.ref p) H'
theorem ok_only_first (D : Df K mg "only_first" s_only_first) (T : Tx mg) : Has P w K mg base 1 "only_first" ["ranges", "number"] sp_only_first := by
  refine has_of D sc_only_first (fun _ _ _ _ _ _ us hl => match us, hl with | [_, _], _ => rfl) (fun vs H Q E h => ?_) (fun f cdv A outer s₀ H vs Q E hr h => ?_)
  · obtain ⟨a, R, n, rfl, _⟩ := h
    rfl
  · obtain ⟨a, R, n, rfl, ⟨xs, hx, hp⟩, l4, q⟩ := h
    have lx : xs.length = R.length := Paired.len hp
    refine ⟨_, (pss_cons (ps_set (i := 2) sc_only_first.nd rfl (by first | exact Or.inl rfl | exact Or.inr rfl) (pe_lst pa_nil))
    (pss_cons (ps_for PassesOwn.never rfl (pi_list (pv 0)) (pg_tup rfl (pgs_cons (pg_name (i := 3) sc_only_first.nd rfl (by first | exact Or.inl rfl | exact Or.inr rfl)) (pgs_cons (pg_name (i := 4) sc_only_first.nd rfl (by first | exact Or.inl rfl | exact Or.inr rfl)) pgs_nil)))
      (pss_cons (ps_set (i := 5) sc_only_first.nd rfl (by first | exact Or.inl rfl | exact Or.inr rfl) (pe_callB (call_min2 rfl) (by rfl) T.n_min (by decide +kernel) (pa_cons (pv 1) (pa_cons (pe_op op_add (pe_op op_sub (pv 4) (pv 3)) pe_int) pa_nil))))
    (C8.pss_cut (ps_if (pt_cmpR op_gt (pv 5) pe_int (nomark _)) (pss_one (ps_expr (pe_bm PySem.F.plainAttrs_list PySem.F.slot_list_append PySem.F.type_list_append mt_append (pv 2) (pa_cons (pe_tup (pa_cons (pv 3) (pa_cons (pe_op op_sub (pe_op op_add (pv 3) (pv 5)) pe_int) pa_nil))) pa_nil)))) pss_nil)
    (pss_one (ps_aug (i := 1) sc_only_first.nd rfl (by first | exact Or.inl rfl | exact Or.inr rfl) (pv 5) ip_sub)))))
    (pss_one (ps_ret (pv 2))))), ?_⟩
    refine ⟨Nat.zero_le _, fun p np => ?_⟩
    refine ⟨_, rfl, a, rfl, ⟨xs, .of (same_upd np _ _ hx)⟩, for_list (K := K) (a := a) (xs := xs) (fun i σ H' => ∃ b y3 y4 y5, b = wfN (R.take i) n ∧ σ = [some (.ref a), some (.int b), some (.ref p), y3, y4, y5] ∧ Same H H' ∧ ∃ ys, H' p = some (.lst ys) ∧ Paired (PV H') ys (ofR (R.take i) n))
      ⟨n, none, none, none, rfl, rfl, same_upd np, [], upd_same, .nil⟩ (fun i σ H' _ hP => ?_) (fun i x σ H1 ex hP => ?_) (fun σ H1 hP => ?_)⟩
    · obtain ⟨_, _, _, _, _, _, sm, _⟩ := hP
      exact .of (sm _ _ hx)
    · obtain ⟨b, y3, y4, y5, rfl, rfl, sm, ys, hL, hy⟩ := hP
      obtain ⟨r, er, hr1⟩ := Paired.at hp ex
      have hi : i < xs.length := (List.getElem?_eq_some_iff.mp ex).1
      obtain ⟨t, rfl, ht⟩ := PV.same sm hr1
      have el : wfN (R.take (i + 1)) n = wfN (R.take i) n - rmR r (wfN (R.take i) n) := by rw [take_snoc er, wfN_snoc]
      have ec : ofR (R.take (i + 1)) n = ofR (R.take i) n ++ ofP r (wfN (R.take i) n) := by rw [take_snoc er, ofR_snoc]
      refine ⟨t, _, rfl, .of ht, rfl, _, _, rfl, _, _, rfl, rfl, ?_⟩
      refine ⟨_, rfl, _, rfl, _, rfl, _, _, rfl, rfl, _, _, rfl, rfl, _, _, rfl, ?_⟩
      refine ⟨fun σ' H' => σ' = [some (.ref a), some (.int (wfN (R.take i) n)), some (.ref p), some (.int r.1), some (.int r.2), some (.int (rmR r (wfN (R.take i) n)))] ∧ Same H H' ∧ ∃ ys, H' p = some (.lst ys) ∧ Paired (PV H') ys (ofR (R.take (i + 1)) n), ?_, fun σ' H5 hM => ?_⟩
      · refine ⟨_, rfl, _, _, rfl, rfl, _, rfl, ite2 (fun e => ?_) (fun e => ?_)⟩
        · have e : 0 < rmR r (wfN (R.take i) n) := of_decide_eq_true e
          have epc : ofP r (wfN (R.take i) n) = [(r.1, r.1 + rmR r (wfN (R.take i) n) - 1)] := if_pos e
          refine ⟨_, rfl, .inl ⟨rfl, _, SqL.of hL⟩, _, rfl, _, rfl, _, rfl, _, _, rfl, rfl, _, _, rfl, rfl, (by show 2 ≤ sizeLine; decide), fun u nn => ⟨p, _, _, rfl, rfl, same_upd nn _ _ hL, ?_, ?_⟩⟩
          · have h1 := Paired.len hy
            have h2 := ofR_len (R.take i) n
            rw [List.length_take] at h2
            exact small (by omega)
          · refine ⟨rfl, same_grow np (sm.trans (same_upd nn)), _, upd_same, ?_⟩
            rw [ec, epc]
            exact Paired.app (pvs_grow (same_upd nn _ _ hL) (pvs_same (same_upd nn) hy)) (.cons (PV.grow (same_upd nn _ _ hL) ⟨_, rfl, upd_same⟩) .nil)
        · have e : ¬ 0 < rmR r (wfN (R.take i) n) := fun z => e (decide_eq_true z)
          have epc : ofP r (wfN (R.take i) n) = [] := if_neg e
          refine ⟨rfl, sm, _, hL, ?_⟩
          rw [ec, epc, List.append_nil]
          exact hy
      · obtain ⟨rfl, s5, ys5, hL5, hy5⟩ := hM
        exact ⟨_, rfl, _, rfl, _, _, rfl, rfl, _, _, _, _, el.symm, rfl, s5, ys5, hL5, hy5⟩
    · obtain ⟨b, y3, y4, y5, rfl, rfl, sm, ys, hL, hy⟩ := hP
      rw [lx, List.take_length] at hy
      exact ⟨_, rfl, q H1 p sm np ⟨ys, hL, hy⟩⟩
/-! add_range: slots 0:ranges 1:first 2:last -/
abbrev s_add_range : Stmt := topS 34
theorem sc_add_range : FnScope ["ranges", "first", "last"] ["ranges", "first", "last"] (defScope s_add_range) := ⟨rfl, rfl, rfl, by decide +kernel, rfl, by decide +kernel, by decide +kernel⟩
def sp_add_range : Sp := fun vs H Q _ => ∃ (a : Addr) (R : List Rg) (f l : Int), vs = [.ref a, .int f, .int l] ∧ Rngs H a R ∧ R.length ≤ 100000 ∧ ∀ H', But a H H' → Rngs H' a (adR R f l) → Q .non H'
theorem ok_add_range (D : Df K mg "add_range" s_add_range) : Has P w K mg base 1 "add_range" ["ranges", "first", "last"] sp_add_range := by
  refine has_of D sc_add_range (fun _ _ _ _ _ _ us hl => match us, hl with | [_, _, _], _ => rfl) (fun vs H Q E h => ?_) (fun f cdv A outer s₀ H vs Q E hr h => ?_)
  · obtain ⟨a, R, x, l, rfl, _⟩ := h
    rfl
  · obtain ⟨a, R, x, l, rfl, ⟨xs, hx, hp⟩, l4, q⟩ := h
    have lx : xs.length = R.length := Paired.len hp
    have app : adR R x l = R ++ [(x, l)] → ∀ (p : Addr), H p = none → Q .non (upd (upd H p (.tup [.int x, .int l])) a (.lst (xs ++ [.ref p]))) := by
      intro e p np
      have hx1 := same_upd (o := .tup [.int x, .int l]) np _ _ hx
      refine q _ ((Same.but (same_upd np)).trans but_upd) ⟨_, upd_same, ?_⟩
      rw [e]
      exact Paired.app (pvs_grow hx1 (pvs_same (same_upd np) hp)) (.cons (PV.grow hx1 ⟨_, rfl, upd_same⟩) .nil)
    refine ⟨_, (pss_one (ps_if (PW.pt (pw_and (pt_truth (pv 0) (by intro _; rfl)) (pw_and1 (pt_cmpR op_eq (pe_op op_add (pe_ix ix_tup (pe_ix ix_list (pv 0) (pe_un un_neg pe_int) (fun _ _ => rfl)) pe_int (fun _ _ => rfl)) pe_int) (pv 1) (nomark _))))) (pss_one (ps_asg (pe_tup (pa_cons (pe_ix ix_tup (pe_ix ix_list (pv 0) (pe_un un_neg pe_int) (fun _ _ => rfl)) pe_int (fun _ _ => rfl)) (pa_cons (pv 2) pa_nil))) (pg_sub (pv 0) (pe_un un_neg pe_int) set_list))) (pss_one (ps_expr (pe_bm PySem.F.plainAttrs_list PySem.F.slot_list_append PySem.F.type_list_append mt_append (pv 0) (pa_cons (pe_tup (pa_cons (pv 1) (pa_cons (pv 2) pa_nil))) pa_nil)))))), ?_⟩
    rcases List.eq_nil_or_concat R with e0 | ⟨R0, y, e0⟩
    · subst e0
      cases hp
      refine ⟨_, rfl, false, .inl ⟨[], .of hx, rfl⟩, iteF ?_⟩
      exact ⟨_, rfl, .inl ⟨rfl, _, SqL.of hx⟩, _, rfl, _, rfl, (by show 2 ≤ sizeLine; decide), fun u nn => ⟨a, _, _, rfl, rfl, same_upd nn _ _ hx, small (by show 0 ≤ _; omega), app rfl u nn⟩⟩
    · rw [List.concat_eq_append] at e0
      subst e0
      obtain ⟨ys0, yv, rfl, hy0, ⟨tl, rfl, htl⟩⟩ := paired_snocR R0 y hp
      have exl : atI (ys0 ++ [V.ref tl]) (-1) = some (.ref tl) := atI_last _ _
      have tr : (!(ys0 ++ [V.ref tl]).isEmpty) = true := by cases ys0 <;> rfl
      have lx2 : (ys0 ++ [V.ref tl]).length ≤ 100000 := by rw [lx]; exact l4
      have ead : adR (R0 ++ [y]) x l = if y.2 + 1 = x then R0 ++ [(y.1, l)] else (R0 ++ [y]) ++ [(x, l)] := by
        unfold adR
        rw [List.getLast?_concat]
        show (if y.2 + 1 = x then _ else _) = _
        rw [List.dropLast_concat]
      refine ⟨_, rfl, true, .inl ⟨_, .of hx, tr.symm⟩, iteT ?_⟩
      refine ⟨_, rfl, 1, rfl, a, _, -1, _, rfl, rfl, .of hx, exl, tl, _, 1, _, rfl, rfl, .of htl, rfl, _, _, rfl, rfl, _, rfl, rfl, _, rfl, ?_⟩
      by_cases nt : y.2 + 1 = x
      · refine iteP (decide_eq_true (by show V.int (y.2 + 1) = V.int x; rw [nt])) ?_
        refine ⟨_, rfl, 1, rfl, a, _, -1, _, rfl, rfl, .of hx, exl, tl, _, 0, _, rfl, rfl, .of htl, rfl, _, rfl, (by show 2 ≤ sizeLine; decide), fun u nu => ?_⟩
        have su := same_upd (o := .tup [.int y.1, .int l]) nu
        have hx1 := su _ _ hx
        refine ⟨_, rfl, 1, rfl, a, _, -1, ys0.length, rfl, rfl, hx1, ?_, ?_⟩
        · rw [List.length_append]
          exact ixN_lastX
        · rw [set_lastX]
          refine q _ ((Same.but su).trans but_upd) ⟨_, upd_same, ?_⟩
          rw [ead, if_pos nt]
          exact Paired.app (pvs_grow hx1 (pvs_same su hy0)) (.cons (PV.grow hx1 ⟨_, rfl, upd_same⟩) .nil)
      · refine iteN (decide_eq_false fun z => nt (V.int.inj z)) ?_
        refine ⟨_, rfl, .inl ⟨rfl, _, SqL.of hx⟩, _, rfl, _, rfl, (by show 2 ≤ sizeLine; decide), fun u nn => ⟨a, _, _, rfl, rfl, same_upd nn _ _ hx, small (by omega), app ?_ u nn⟩⟩
        rw [ead, if_neg nt]
/-! ranges_after_run: slots 0:ranges 1:start 2:count 3:leaving 4:kept -/
abbrev s_ranges_after_run : Stmt := topS 37
theorem sc_ranges_after_run : FnScope ["ranges", "start", "count", "leaving", "kept"] ["ranges", "start", "count", "leaving"] (defScope s_ranges_after_run) := ⟨rfl, rfl, rfl, by decide +kernel, rfl, by decide +kernel, by decide +kernel⟩
def sp_ranges_after_run : Sp := fun vs H Q _ => ∃ (a : Addr) (R : List Rg) (b c n : Int), vs = [.ref a, .int b, .int c, .int n] ∧ Rngs H a R ∧ R.length ≤ 100000 ∧ ∀ H' p, Same H H' → H p = none → Rngs H' p (rarR R b c n) → Q (.ref p) H'
theorem ok_ranges_after_run (D : Df K mg "ranges_after_run" s_ranges_after_run) (G_without_first : Has P w K mg base 1 "without_first" ["ranges", "number"] sp_without_first) (G_add_range : Has P w K mg base 1 "add_range" ["ranges", "first", "last"] sp_add_range) : Has P w K mg base 2 "ranges_after_run" ["ranges", "start", "count", "leaving"] sp_ranges_after_run := by
  refine has_of D sc_ranges_after_run (fun _ _ _ _ _ _ us hl => match us, hl with | [_, _, _, _], _ => rfl) (fun vs H Q E h => ?_) (fun f cdv A outer s₀ H vs Q E hr h => ?_)
  · obtain ⟨a, R, b, c, n, rfl, _⟩ := h
    rfl
  · obtain ⟨a, R, b, c, n, rfl, hR, l4, q⟩ := h
    refine ⟨_, (pss_cons (ps_set (i := 4) sc_ranges_after_run.nd rfl (by first | exact Or.inl rfl | exact Or.inr rfl) (pe_callH G_without_first (hr.mono (by omega)) (by rfl) (pa_cons (pv 0) (pa_cons (pv 3) pa_nil))))
    (pss_cons (ps_if (pt_cmpR op_lt (pv 3) (pv 2) (nomark _)) (pss_one (ps_expr (pe_callH G_add_range (hr.mono (by omega)) (by rfl) (pa_cons (pv 4) (pa_cons (pe_op op_add (pv 1) (pv 3)) (pa_cons (pe_op op_sub (pe_op op_add (pv 1) (pv 2)) pe_int) pa_nil)))))) pss_nil)
    (pss_one (ps_ret (pv 4))))), ?_⟩
    refine ⟨_, rfl, _, rfl, a, R, n, rfl, hR, l4, fun H5 p5 s5 n5 h5 => ?_⟩
    have lw := wfR_len R n
    refine ⟨_, rfl, _, rfl, _, _, rfl, rfl, _, rfl, ite2 (fun e => ?_) (fun e => ?_)⟩
    · have e : n < c := of_decide_eq_true e
      have epc : rarR R b c n = adR (wfR R n) (b + n) (b + c - 1) := if_pos e
      refine ⟨_, rfl, _, rfl, _, rfl, _, _, rfl, rfl, _, rfl, _, rfl, _, _, rfl, rfl, _, _, rfl, rfl, p5, _, _, _, rfl, h5, by omega, fun H6 b6 h6 => ?_⟩
      refine ⟨_, rfl, q _ p5 (fun x o hx => b6 _ _ (ne_of_none hx n5) (s5 _ _ hx)) n5 ?_⟩
      rw [epc]
      exact h6
    · have e : ¬ n < c := fun z => e (decide_eq_true z)
      have epc : rarR R b c n = wfR R n := if_neg e
      refine ⟨_, rfl, q _ p5 s5 n5 ?_⟩
      rw [epc]
      exact h5
end
end UP

set_option Elab.async false
set_option linter.all false
set_option maxRecDepth 100000
set_option maxHeartbeats 4000000
set_option pp.maxSteps 300
namespace UP
open PySem PySem.Spec PyProof.Rows L2
/-! ### methods that keep a promise, by their names -/
section
variable (P : Program) (w : World) (K : PySem.W.Frag) (mg : Str → Option Value) (base : Heap) (C : Addr)
def HasM (k : Nat) (m : Str) (ps : List Str) (sp : Sp) : Prop := ∃ f fd, Meth K C m f ∧ Binds K fd ps [] ∧ FnOk P w K mg base CX0 k f fd ps sp
def HasI (k : Nat) (sp : Sp) : Prop := ∃ f fd, Mk K C f ∧ Binds K fd ["self"] [] ∧ FnOk P w K mg base CX0 k f fd ["self"] sp
/-- a method whose last parameter, kw, has the default d -/
def HasMD (k : Nat) (m : Str) (ps : List Str) (n : Nat) (kw : Str) (d : V) (sp : Sp) : Prop :=
  ∃ f fd, Meth K C m f ∧ Binds K fd ps [] ∧ (∃ ds, Vals [d] ds ∧ Binds K fd ps ds) ∧ KBn K fd ps n [kw] (fun us ws => us ++ ws) (fun vs zs => vs ++ zs) ∧ FnOk P w K mg base CX0 k f fd ps sp
def DfM (m q : Str) (st : Stmt) : Prop := ∃ f fd, Meth K C m f ∧ Fun K m q st f fd
def DfI (q : Str) (st : Stmt) : Prop := ∃ f fd, Mk K C f ∧ Fun K "__init__" q st f fd
def DfMD (m q : Str) (st : Stmt) (d : V) : Prop := ∃ f fd, Meth K C m f ∧ FunD K m q (defArgs st) (defBody st) (defScope st) [d] [] f fd
end
section
variable {P : Program} {w : World} {K : PySem.W.Frag} {mg : Str → Option Value} {base : Heap} {C : Addr}
theorem hasM_of {m q : Str} {st : Stmt} {ps N : List Str} {k : Nat} {sp : Sp} (D : DfM K C m q st) (S : FnScope N ps (defScope st))
    (hb : ∀ (kV doc pm : Value) (an : Option Addr) (cdv ct : Value) (us : List Value), us.length = ps.length → bindArgs (PySem.W.fnOf m q (defArgs st) (defBody st) (defScope st) .none kV doc pm an cdv ct) ⟨us, []⟩ = pure (ps.zip us))
    (len : ∀ vs H Q E, sp vs H Q E → vs.length = ps.length)
    (body : ∀ (f : Addr) (cdv : Value) (A : Around) (outer : List Env) (s : Shared) (H : Hp) (vs : List V) (Q : VK) (E : XK), Room k (A.deeper (envOfC q (defScope st) s.heap.objs.size f cdv)) → sp vs H Q E →
      ∃ t, PSs (cxOf CX0 P w K mg base N q (defScope st) f cdv A outer s H E).nox (defBody st) t ∧ t { nx := fun _ H' => Q .non H', rt := Q } (start N vs) H) :
    HasM P w K mg base C (k + 1) m ps sp := by
  obtain ⟨f, fd, g, F⟩ := D
  exact ⟨f, fd, g, F.binds hb, F.ok S len fun cdv A outer s H vs Q E hr h => body f cdv A outer s H vs Q E hr h⟩
theorem hasI_of {q : Str} {st : Stmt} {N : List Str} {k : Nat} {sp : Sp} (D : DfI K C q st) (S : FnScope N ["self"] (defScope st))
    (hb : ∀ (kV doc pm : Value) (an : Option Addr) (cdv ct : Value) (us : List Value), us.length = (["self"] : List Str).length → bindArgs (PySem.W.fnOf "__init__" q (defArgs st) (defBody st) (defScope st) .none kV doc pm an cdv ct) ⟨us, []⟩ = pure ((["self"] : List Str).zip us))
    (len : ∀ vs H Q E, sp vs H Q E → vs.length = (["self"] : List Str).length)
    (body : ∀ (f : Addr) (cdv : Value) (A : Around) (outer : List Env) (s : Shared) (H : Hp) (vs : List V) (Q : VK) (E : XK), Room k (A.deeper (envOfC q (defScope st) s.heap.objs.size f cdv)) → sp vs H Q E →
      ∃ t, PSs (cxOf CX0 P w K mg base N q (defScope st) f cdv A outer s H E).nox (defBody st) t ∧ t { nx := fun _ H' => Q .non H', rt := Q } (start N vs) H) :
    HasI P w K mg base C (k + 1) sp := by
  obtain ⟨f, fd, g, F⟩ := D
  exact ⟨f, fd, g, F.binds hb, F.ok S len fun cdv A outer s H vs Q E hr h => body f cdv A outer s H vs Q E hr h⟩
theorem hasM_ofD {m q kw : Str} {st : Stmt} {ps N : List Str} {k n : Nat} {d : V} {sp : Sp} (D : DfMD K C m q st d) (S : FnScope N ps (defScope st)) (hpn : ps.length = n + 1)
    (hb : ∀ (T : Addr) (kV doc pm : Value) (an : Option Addr) (cdv ct : Value) (us its : List Value), us.length = n + 1 → its.length = 1 →
      ∃ z, bindArgs (PySem.W.fnOf m q (defArgs st) (defBody st) (defScope st) (.ref T) kV doc pm an cdv ct) ⟨us, []⟩ = seqItems? (.ref T) >>= z ∧ z (some its.toArray) = pure (ps.zip us))
    (hb1 : ∀ (T : Addr) (kV doc pm : Value) (an : Option Addr) (cdv ct : Value) (us its : List Value), us.length = n → its.length = 1 →
      ∃ z, bindArgs (PySem.W.fnOf m q (defArgs st) (defBody st) (defScope st) (.ref T) kV doc pm an cdv ct) ⟨us, []⟩ = seqItems? (.ref T) >>= z ∧ z (some its.toArray) = pure (ps.zip (us ++ its)))
    (hb2 : ∀ (T : Addr) (kV doc pm : Value) (an : Option Addr) (cdv ct : Value) (us its : List Value) (v : Value), us.length = n → its.length = 1 →
      ∃ z, bindArgs (PySem.W.fnOf m q (defArgs st) (defBody st) (defScope st) (.ref T) kV doc pm an cdv ct) ⟨us, [(kw, v)]⟩ = seqItems? (.ref T) >>= z ∧ z (some its.toArray) = pure (ps.zip (us ++ [v])))
    (len : ∀ vs H Q E, sp vs H Q E → vs.length = ps.length)
    (body : ∀ (f : Addr) (cdv : Value) (A : Around) (outer : List Env) (s : Shared) (H : Hp) (vs : List V) (Q : VK) (E : XK), Room k (A.deeper (envOfC q (defScope st) s.heap.objs.size f cdv)) → sp vs H Q E →
      ∃ t, PSs (cxOf CX0 P w K mg base N q (defScope st) f cdv A outer s H E).nox (defBody st) t ∧ t { nx := fun _ H' => Q .non H', rt := Q } (start N vs) H) :
    HasMD P w K mg base C (k + 1) m ps n kw d sp := by
  obtain ⟨f, fd, g, F⟩ := D
  have B0 : Binds K fd ps [] := by
    obtain ⟨ds, v, b⟩ := F.binds1 (n + 1) 1 (ps := ps) (by intro z; cases z) (by rw [hpn]; rfl) fun T kV doc pm an cdv ct us its h1 h2 => by
      obtain ⟨z, e1, e2⟩ := hb T kV doc pm an cdv ct us its h1 h2
      refine ⟨z, e1, ?_⟩
      have h3 : its.length ≤ 1 := Nat.le_of_eq h2
      rw [e2, List.drop_of_length_le h3, List.append_nil]
    cases v
    exact b
  have B1 : ∃ ds, Vals [d] ds ∧ Binds K fd ps ds := by
    obtain ⟨ds, v, b⟩ := F.binds1 n 0 (ps := ps) (by intro z; cases z) (by rw [hpn]; rfl) fun T kV doc pm an cdv ct us its h1 h2 => by
      obtain ⟨z, e1, e2⟩ := hb1 T kV doc pm an cdv ct us its h1 h2
      exact ⟨z, e1, by rw [e2, List.drop_zero]⟩
    exact ⟨ds, v, b⟩
  have B2 : KBn K fd ps n [kw] (fun us ws => us ++ ws) (fun vs zs => vs ++ zs) := by
    refine ⟨fun s us ws X l1 l2 => ?_, fun r1 r2 => r1.append r2⟩
    obtain ⟨oc, od, dV, kV, doc, pm, an, cdv, ct, osl, rfl, lk, hcd, hD, _⟩ := F.ex
    rcases hD with ⟨z, _⟩ | ⟨_, T, o, its, j, rfl, lT, oT, rT⟩
    · cases z
    · match ws, l2 with
      | [v], _ =>
        obtain ⟨z, e1, e2⟩ := hb2 T kV doc pm an cdv ct us its v l1 rT.length.symm
        refine BindsTo.of_looks fun M => ?_
        show PySem.W.Looks M s.heap (bindArgs _ ⟨us, [(kw, v)]⟩) _
        rw [e1]
        exact looks_items X lT oT (.of_pure e2)
  refine ⟨f, fd, g, B0, B1, B2, F.ok S len fun cdv A outer s H vs Q E hr h => ?_⟩
  obtain ⟨t, p, q⟩ := body f cdv A outer s H vs Q E hr h
  exact ⟨t, p.nox, q⟩
end
section
variable {X : Cx} {C : Addr} {k n : Nat} {m kw : Str} {ps : List Str} {sp : Sp} {d : V} {o e : Expr} {es : List Expr} {ta : TE} {t : TA} {p pos apos : Pos}
theorem pe_methO {pl : Sem Bool} (he : PE X o ta) (c : Cls X.K C) (G : HasM X.prog X.w X.K X.mg X.base C k m ps sp) (hr : Room k X.A) (ha : PA X (e :: es) t)
    (hst : starEach (e :: es) X.env = (false, eval e X.env) :: starEach es X.env := by rfl) (hpl : (backTo pos (starEach es X.env)).any (·.1) = false := by rfl)
    (ht : eval (.Call (.Attribute o m apos) (e :: es) [] pos) X.env = (do
      let ov ← eval o X.env
      standAt apos.atName
      let (f, first) ← holding [ov] (getMethod ov m pl)
      callWith pos f first (backTo pos (starEach (e :: es) X.env)) (backToKw pos (keywordEach [] X.env))) := by rfl) :
    PE X (.Call (.Attribute o m apos) (e :: es) [] pos) (tMeth C m sp [] E0 ta t) := by
  obtain ⟨f, fd, hm, hb, F⟩ := G
  exact pe_meth he c hm F hr hb .nil pass0 ha hst hpl ht
theorem pe_methFO {pl : Sem Bool} (he : PE X o ta) (c : Cls X.K C) (G : HasMD X.prog X.w X.K X.mg X.base C k m ps n kw d sp) (hr : Room k X.A) (ha : PA X (e :: es) t)
    (hst : starEach (e :: es) X.env = (false, eval e X.env) :: starEach es X.env := by rfl) (hpl : (backTo pos (starEach es X.env)).any (·.1) = false := by rfl)
    (ht : eval (.Call (.Attribute o m apos) (e :: es) [] pos) X.env = (do
      let ov ← eval o X.env
      standAt apos.atName
      let (f, first) ← holding [ov] (getMethod ov m pl)
      callWith pos f first (backTo pos (starEach (e :: es) X.env)) (backToKw pos (keywordEach [] X.env))) := by rfl) :
    PE X (.Call (.Attribute o m apos) (e :: es) [] pos) (tMeth C m sp [] E0 ta t) := by
  obtain ⟨f, fd, hm, hb, _, _, F⟩ := G
  exact pe_meth he c hm F hr hb .nil pass0 ha hst hpl ht
theorem pe_methDO {pl : Sem Bool} (he : PE X o ta) (c : Cls X.K C) (G : HasMD X.prog X.w X.K X.mg X.base C k m ps n kw d sp) (hr : Room k X.A) (ha : PA X (e :: es) t)
    (hst : starEach (e :: es) X.env = (false, eval e X.env) :: starEach es X.env := by rfl) (hpl : (backTo pos (starEach es X.env)).any (·.1) = false := by rfl)
    (ht : eval (.Call (.Attribute o m apos) (e :: es) [] pos) X.env = (do
      let ov ← eval o X.env
      standAt apos.atName
      let (f, first) ← holding [ov] (getMethod ov m pl)
      callWith pos f first (backTo pos (starEach (e :: es) X.env)) (backToKw pos (keywordEach [] X.env))) := by rfl) :
    PE X (.Call (.Attribute o m apos) (e :: es) [] pos) (tMeth C m sp [d] E0 ta t) := by
  obtain ⟨f, fd, hm, _, ⟨ds, v, b⟩, _, F⟩ := G
  exact pe_meth he c hm F hr b v pass0 ha hst hpl ht
theorem pe_meth0O {pl : Sem Bool} (he : PE X o ta) (c : Cls X.K C) (G : HasM X.prog X.w X.K X.mg X.base C k m ps sp) (hr : Room k X.A)
    (ht : eval (.Call (.Attribute o m apos) [] [] pos) X.env = (do
      let ov ← eval o X.env
      standAt apos.atName
      let (f, first) ← holding [ov] (getMethod ov m pl)
      callWith pos f first (backTo pos (starEach [] X.env)) (backToKw pos (keywordEach [] X.env))) := by rfl) :
    PE X (.Call (.Attribute o m apos) [] [] pos) (tMeth C m sp [] E0 ta tNil) := by
  obtain ⟨f, fd, hm, hb, F⟩ := G
  exact pe_meth0 he c hm F hr hb .nil pass0 ht
theorem pe_makeO {x : Str} (hm : X.mg x = some (.ref C)) (G : HasI X.prog X.w X.K X.mg X.base C k sp) (hr : Room (k + 1) X.A) (hg : Gl X x) (hdb : (x == ("__debug__" : Str)) = false := by decide) :
    PE X (.Call (.Name x p) [] [] pos) (tMake C sp [] E0 tNil) := by
  obtain ⟨f, fd, M, hb, F⟩ := G
  exact pe_make0 M F hr hg hm hb .nil pass0 hdb
theorem pe_call0H {x : Str} (G : Has X.prog X.w X.K X.mg X.base k x ps sp) (hr : Room k X.A) (hg : Gl X x) (hdb : (x == ("__debug__" : Str)) = false := by decide) :
    PE X (.Call (.Name x p) [] [] pos) (tCall sp [] E0 tNil) := by
  obtain ⟨f, fd, g, kp, b, F⟩ := G
  exact pe_call0 F hr hg g kp b .nil pass0 hdb
end
/-! ### a station -/
def fl6 (st ra ar pa bl ps : V) : List (Str × V) := putF "past" ps (putF "blocks" bl (putF "paired" pa (putF "arrived" ar (putF "ranges" ra (putF "state" st [])))))
theorem putF_other {f g : Str} {v x : V} {r : List (Str × V)} (h : ¬ g = f) : putF f v ((g, x) :: r) = (g, x) :: putF f v r := if_neg h
theorem putF_hit {f : Str} {v x : V} {r : List (Str × V)} : putF f v ((f, x) :: r) = (f, v) :: r := if_pos rfl
theorem fl6_eq (st ra ar pa bl ps : V) : fl6 st ra ar pa bl ps = ([("state", st), ("ranges", ra), ("arrived", ar), ("paired", pa), ("blocks", bl), ("past", ps)] : List (Str × V)) := by
  unfold fl6
  have e1 : putF "ranges" ra (putF "state" st []) = [(("state" : Str), st), ("ranges", ra)] := putF_other (by decide +kernel)
  have e2 : putF "arrived" ar [(("state" : Str), st), ("ranges", ra)] = [(("state" : Str), st), ("ranges", ra), ("arrived", ar)] := by
    rw [putF_other (by decide +kernel), putF_other (by decide +kernel)]
    rfl
  have e3 : putF "paired" pa [(("state" : Str), st), ("ranges", ra), ("arrived", ar)] = [(("state" : Str), st), ("ranges", ra), ("arrived", ar), ("paired", pa)] := by
    rw [putF_other (by decide +kernel), putF_other (by decide +kernel), putF_other (by decide +kernel)]
    rfl
  have e4 : putF "blocks" bl [(("state" : Str), st), ("ranges", ra), ("arrived", ar), ("paired", pa)] = [(("state" : Str), st), ("ranges", ra), ("arrived", ar), ("paired", pa), ("blocks", bl)] := by
    rw [putF_other (by decide +kernel), putF_other (by decide +kernel), putF_other (by decide +kernel), putF_other (by decide +kernel)]
    rfl
  rw [e1, e2, e3, e4, putF_other (by decide +kernel), putF_other (by decide +kernel), putF_other (by decide +kernel), putF_other (by decide +kernel), putF_other (by decide +kernel)]
  rfl
theorem fl6_len (st ra ar pa bl ps : V) : (fl6 st ra ar pa bl ps).length < 1000 := by
  rw [fl6_eq]
  show 6 < 1000
  decide
theorem fl6_state (st ra ar pa bl ps : V) : (fl6 st ra ar pa bl ps).lookup ("state" : Str) = some st := by
  unfold fl6
  rw [lookup_putF, if_neg (by decide +kernel), lookup_putF, if_neg (by decide +kernel), lookup_putF, if_neg (by decide +kernel), lookup_putF, if_neg (by decide +kernel), lookup_putF, if_neg (by decide +kernel), lookup_putF, if_pos rfl]
theorem fl6_ranges (st ra ar pa bl ps : V) : (fl6 st ra ar pa bl ps).lookup ("ranges" : Str) = some ra := by
  unfold fl6
  rw [lookup_putF, if_neg (by decide +kernel), lookup_putF, if_neg (by decide +kernel), lookup_putF, if_neg (by decide +kernel), lookup_putF, if_neg (by decide +kernel), lookup_putF, if_pos rfl]
theorem fl6_arrived (st ra ar pa bl ps : V) : (fl6 st ra ar pa bl ps).lookup ("arrived" : Str) = some ar := by
  unfold fl6
  rw [lookup_putF, if_neg (by decide +kernel), lookup_putF, if_neg (by decide +kernel), lookup_putF, if_neg (by decide +kernel), lookup_putF, if_pos rfl]
theorem fl6_paired (st ra ar pa bl ps : V) : (fl6 st ra ar pa bl ps).lookup ("paired" : Str) = some pa := by
  unfold fl6
  rw [lookup_putF, if_neg (by decide +kernel), lookup_putF, if_neg (by decide +kernel), lookup_putF, if_pos rfl]
theorem fl6_blocks (st ra ar pa bl ps : V) : (fl6 st ra ar pa bl ps).lookup ("blocks" : Str) = some bl := by
  unfold fl6
  rw [lookup_putF, if_neg (by decide +kernel), lookup_putF, if_pos rfl]
theorem fl6_past (st ra ar pa bl ps : V) : (fl6 st ra ar pa bl ps).lookup ("past" : Str) = some ps := by
  unfold fl6
  rw [lookup_putF, if_pos rfl]
/-- no attribute of its own by another name -/
def NotF (m : Str) : Prop := ¬ m = "state" ∧ ¬ m = "ranges" ∧ ¬ m = "arrived" ∧ ¬ m = "paired" ∧ ¬ m = "blocks" ∧ ¬ m = "past"
theorem fl6_no {m : Str} (h : NotF m) (st ra ar pa bl ps : V) : (fl6 st ra ar pa bl ps).lookup m = none := by
  obtain ⟨h1, h2, h3, h4, h5, h6⟩ := h
  unfold fl6
  rw [lookup_putF, if_neg h6, lookup_putF, if_neg h5, lookup_putF, if_neg h4, lookup_putF, if_neg h3, lookup_putF, if_neg h2, lookup_putF, if_neg h1]
  rfl
theorem put_state {v st ra ar pa bl ps : V} : putF "state" v (fl6 st ra ar pa bl ps) = fl6 v ra ar pa bl ps := by
  rw [fl6_eq, fl6_eq, putF_hit]
theorem put_ranges {v st ra ar pa bl ps : V} : putF "ranges" v (fl6 st ra ar pa bl ps) = fl6 st v ar pa bl ps := by
  rw [fl6_eq, fl6_eq, putF_other (by decide +kernel), putF_hit]
theorem put_arrived {v st ra ar pa bl ps : V} : putF "arrived" v (fl6 st ra ar pa bl ps) = fl6 st ra v pa bl ps := by
  rw [fl6_eq, fl6_eq, putF_other (by decide +kernel), putF_other (by decide +kernel), putF_hit]
theorem put_paired {v st ra ar pa bl ps : V} : putF "paired" v (fl6 st ra ar pa bl ps) = fl6 st ra ar v bl ps := by
  rw [fl6_eq, fl6_eq, putF_other (by decide +kernel), putF_other (by decide +kernel), putF_other (by decide +kernel), putF_hit]
theorem put_blocks {v st ra ar pa bl ps : V} : putF "blocks" v (fl6 st ra ar pa bl ps) = fl6 st ra ar pa v ps := by
  rw [fl6_eq, fl6_eq, putF_other (by decide +kernel), putF_other (by decide +kernel), putF_other (by decide +kernel), putF_other (by decide +kernel), putF_hit]
end UP

set_option Elab.async false
set_option linter.all false
set_option maxRecDepth 100000
set_option maxHeartbeats 4000000
set_option pp.maxSteps 300
namespace UP
open PySem PySem.Spec PyProof.Rows L2
structure Sta where
  st : Option Run
  R : List Rg
  n : Int
  m : Int
  B : List Blk
abbrev Op := Str × Key × Int
def OpV (H : Hp) (v : V) (o : Op) : Prop := ∃ t, v = .ref t ∧ H t = some (.tup [.str o.1, kV o.2.1, .int o.2.2])
def PastV (H : Hp) (v : V) (o : Op) : Prop := ∃ t u b, v = .ref t ∧ H t = some (.tup [u, b]) ∧ OpV H u o
/-- tuples are kept -/
def Tk (H H' : Hp) : Prop := ∀ b xs, H b = some (.tup xs) → H' b = some (.tup xs)
theorem stk {H H' : Hp} (s : Same H H') : Tk H H' := fun b xs e => s _ _ e
theorem Tk.trans {H H1 H2 : Hp} (a : Tk H H1) (b : Tk H1 H2) : Tk H H2 := fun c xs e => b _ _ (a _ _ e)
theorem PV.tk {H H' : Hp} {v : V} {p : Rg} (k : Tk H H') (h : PV H v p) : PV H' v p := by
  obtain ⟨t, e, ht⟩ := h
  exact ⟨t, e, k _ _ ht⟩
theorem BV.tk {H H' : Hp} {v : V} {p : Blk} (k : Tk H H') (h : BV H v p) : BV H' v p := by
  obtain ⟨t, e, ht⟩ := h
  exact ⟨t, e, k _ _ ht⟩
theorem StV.tk {H H' : Hp} {v : V} {st : Option Run} (k : Tk H H') (h : StV H v st) : StV H' v st := by
  cases st with
  | none => exact h
  | some r =>
    obtain ⟨t, e, ht⟩ := h
    exact ⟨t, e, k _ _ ht⟩
theorem OpV.tk {H H' : Hp} {v : V} {o : Op} (k : Tk H H') (h : OpV H v o) : OpV H' v o := by
  obtain ⟨t, e, ht⟩ := h
  exact ⟨t, e, k _ _ ht⟩
theorem PastV.tk {H H' : Hp} {v : V} {o : Op} (k : Tk H H') (h : PastV H v o) : PastV H' v o := by
  obtain ⟨t, u, b, e, ht, ho⟩ := h
  exact ⟨t, u, b, e, k _ _ ht, ho.tk k⟩
theorem Rngs.tk {H H' : Hp} {a : Addr} {R : List Rg} (k : Tk H H') (c : ∀ o, H a = some o → H' a = some o) (h : Rngs H a R) : Rngs H' a R := by
  obtain ⟨xs, e, p⟩ := h
  exact ⟨xs, c _ e, Paired.imp (fun _ _ z => z.tk k) p⟩
theorem Blks.tk {H H' : Hp} {a : Addr} {R : List Blk} (k : Tk H H') (c : ∀ o, H a = some o → H' a = some o) (h : Blks H a R) : Blks H' a R := by
  obtain ⟨xs, e, p⟩ := h
  exact ⟨xs, c _ e, Paired.imp (fun _ _ z => z.tk k) p⟩
def Pst (H : Hp) (a : Addr) (ops : List Op) : Prop := ∃ xs, H a = some (.lst xs) ∧ Paired (PastV H) xs ops
theorem Pst.tk {H H' : Hp} {a : Addr} {R : List Op} (k : Tk H H') (c : ∀ o, H a = some o → H' a = some o) (h : Pst H a R) : Pst H' a R := by
  obtain ⟨xs, e, p⟩ := h
  exact ⟨xs, c _ e, Paired.imp (fun _ _ z => z.tk k) p⟩
theorem tk_but {H H' : Hp} {p : Addr} {o : HO} (hp : H p = some o) (no : ∀ xs, o ≠ .tup xs) (b : But p H H') : Tk H H' := fun c xs e => b _ _ (ne_of e hp (fun z => no xs z.symm)) e
theorem But.at {H H' : Hp} {p a : Addr} (b : But p H H') (n : a ≠ p) : ∀ o, H a = some o → H' a = some o := fun o e => b _ _ n e
/-- a station: its object, its list of operations, its ranges, its blocks -/
structure Stn (C : Addr) (H : Hp) (p ap ar ab : Addr) (S : Sta) (ops : List Op) : Prop where
  ob : ∃ dx v, H p = some (.ins C dx (fl6 v (.ref ar) (.int S.n) (.int S.m) (.ref ab) (.ref ap))) ∧ StV H v S.st
  rg : Rngs H ar S.R
  bl : Blks H ab S.B
  ps : Pst H ap ops
  n1 : ap ≠ ar
  n2 : ap ≠ ab
theorem Stn.keep {C : Addr} {H H' : Hp} {p ap ar ab : Addr} {S : Sta} {ops : List Op} (z : Stn C H p ap ar ab S ops) (k : Tk H H') (k1 : ∀ o, H p = some o → H' p = some o) (k2 : ∀ o, H ap = some o → H' ap = some o) (k3 : ∀ o, H ar = some o → H' ar = some o) (k4 : ∀ o, H ab = some o → H' ab = some o) : Stn C H' p ap ar ab S ops := by
  obtain ⟨⟨dx, v, h1, h2⟩, h3, h4, h5, h6, h7⟩ := z
  exact ⟨⟨dx, v, k1 _ h1, h2.tk k⟩, h3.tk k k3, h4.tk k k4, h5.tk k k2, h6, h7⟩
theorem Stn.same {C : Addr} {H H' : Hp} {p ap ar ab : Addr} {S : Sta} {ops : List Op} (z : Stn C H p ap ar ab S ops) (s : Same H H') : Stn C H' p ap ar ab S ops := z.keep (stk s) (fun _ e => s _ _ e) (fun _ e => s _ _ e) (fun _ e => s _ _ e) (fun _ e => s _ _ e)
/-- all but two objects are kept -/
def Fr (p ap : Addr) (H H' : Hp) : Prop := ∀ b o, b ≠ p → b ≠ ap → H b = some o → H' b = some o
theorem Fr.of {p ap : Addr} {H H' : Hp} (s : Same H H') : Fr p ap H H' := fun b o _ _ e => s _ _ e
theorem Fr.but1 {p ap : Addr} {H H' : Hp} (s : But p H H') : Fr p ap H H' := fun b o n _ e => s _ _ n e
theorem Fr.but2 {p ap : Addr} {H H' : Hp} (s : But ap H H') : Fr p ap H H' := fun b o _ n e => s _ _ n e
theorem Fr.trans {p ap : Addr} {H H1 H2 : Hp} (a : Fr p ap H H1) (b : Fr p ap H1 H2) : Fr p ap H H2 := fun c o n m e => b _ _ n m (a _ _ n m e)
def arrS (S : Sta) (k : Str) (c : Int) : Sta := ⟨stepR S.st k c, rarR S.R S.n c (leavR S.st k c), S.n + c, S.m + leavR S.st k c, S.B ++ brR S.R S.n (leavR S.st k c)⟩
def givS (S : Sta) (i c : Int) (k : Str) : Sta := ⟨withR k (numR S.st - c), ofR S.R i ++ wfR (wfR S.R i) c, S.n, S.m, S.B⟩
/-- the class, as the top has made it -/
structure ClsT (K : PySem.W.Frag) (mg : Str → Option Value) (C : Addr) : Prop where
  cl : Cls K C
  n1 : NoAttr K C "state"
  n2 : NoAttr K C "ranges"
  n3 : NoAttr K C "arrived"
  n4 : NoAttr K C "paired"
  n5 : NoAttr K C "blocks"
  n6 : NoAttr K C "past"
  mkS : mg "Station" = some (.ref C)
theorem nf_remember : NotF "remember" := ⟨by decide +kernel, by decide +kernel, by decide +kernel, by decide +kernel, by decide +kernel, by decide +kernel⟩
section
variable {P : Program} {w : World} {K : PySem.W.Frag} {mg : Str → Option Value} {base : Heap} {C : Addr}
/-! Station.__init__: slots 0:self -/
abbrev s_Station___init__ : Stmt := inClass (topS 42) 0
theorem sc_Station___init__ : FnScope ["self"] ["self"] (defScope s_Station___init__) := ⟨rfl, rfl, rfl, by decide +kernel, rfl, by decide +kernel, by decide +kernel⟩
def sp_Station_init (C : Addr) : Sp := fun vs H Q _ => ∃ (p dx : Addr), vs = [.ref p] ∧ H p = some (.ins C dx []) ∧ ∀ H' ap ar ab, But p H H' → H ap = none → H ar = none → H ab = none → Stn C H' p ap ar ab ⟨none, [], 0, 0, []⟩ [] → Q .non H'
theorem ok_Station___init__ (D : DfI K C "Station.__init__" s_Station___init__) (TS : ClsT K mg C) : HasI P w K mg base C 1 (sp_Station_init C) := by
  refine hasI_of D sc_Station___init__ (fun _ _ _ _ _ _ us hl => match us, hl with | [_], _ => rfl) (fun vs H Q E h => ?_) (fun f cdv A outer s₀ H vs Q E hr h => ?_)
  · obtain ⟨_, _, rfl, _⟩ := h
    rfl
  · obtain ⟨p, dx, rfl, hp, q⟩ := h
    refine ⟨_, (pss_cons (ps_fld (pv 0) pe_non rfl)
    (pss_cons (ps_fld (pv 0) (pe_lst pa_nil) rfl)
    (pss_cons (ps_fld (pv 0) pe_int rfl)
    (pss_cons (ps_fld (pv 0) pe_int rfl)
    (pss_cons (ps_fld (pv 0) (pe_lst pa_nil) rfl)
    (pss_one (ps_fld (pv 0) (pe_lst pa_nil) rfl))))))), ?_⟩
    have ls : ∀ {f : Str} {v : V} {fs : List (Str × V)} {j : Nat}, fs.length ≤ j → (putF f v fs).length ≤ j + 1 := fun h => Nat.le_trans (length_putF _ _ _) (Nat.add_le_add_right h 1)
    have l1 : (putF "state" V.non []).length ≤ 1 := ls (Nat.le_refl 0)
    refine ⟨_, rfl, p, C, dx, [], rfl, hp, TS.cl, TS.n1, (by show 0 < 1000; decide), ?_⟩
    have h1 : (upd H p (.ins C dx (putF "state" V.non []))) p = some (.ins C dx (putF "state" V.non [])) := upd_same
    have b1 : But p H (upd H p (.ins C dx (putF "state" V.non []))) := but_upd
    generalize upd H p (.ins C dx (putF "state" V.non [])) = H1 at *
    refine ⟨Nat.zero_le _, fun ar nr => ?_⟩
    have s2 := same_upd (o := .lst []) nr
    have hr2 : (upd H1 ar (.lst [])) ar = some (.lst []) := upd_same
    generalize upd H1 ar (.lst []) = H2 at *
    have l2 : (putF "ranges" (V.ref ar) (putF "state" V.non [])).length ≤ 2 := ls l1
    refine ⟨_, rfl, p, C, dx, _, rfl, s2 _ _ h1, TS.cl, TS.n2, by omega, ?_⟩
    have pr : ar ≠ p := (ne_of_none h1 nr).symm
    have h3 : (upd H2 p (.ins C dx (putF "ranges" (V.ref ar) (putF "state" V.non [])))) p = some (.ins C dx (putF "ranges" (V.ref ar) (putF "state" V.non []))) := upd_same
    have b3 : But p H2 (upd H2 p (.ins C dx (putF "ranges" (V.ref ar) (putF "state" V.non [])))) := but_upd
    generalize upd H2 p (.ins C dx (putF "ranges" (V.ref ar) (putF "state" V.non []))) = H3 at *
    have l3 : (putF "arrived" (V.int 0) (putF "ranges" (V.ref ar) (putF "state" V.non []))).length ≤ 3 := ls l2
    refine ⟨_, rfl, p, C, dx, _, rfl, h3, TS.cl, TS.n3, by omega, ?_⟩
    have h4 : (upd H3 p (.ins C dx (putF "arrived" (V.int 0) (putF "ranges" (V.ref ar) (putF "state" V.non []))))) p = some (.ins C dx (putF "arrived" (V.int 0) (putF "ranges" (V.ref ar) (putF "state" V.non [])))) := upd_same
    have b4 : But p H3 (upd H3 p (.ins C dx (putF "arrived" (V.int 0) (putF "ranges" (V.ref ar) (putF "state" V.non []))))) := but_upd
    generalize upd H3 p (.ins C dx (putF "arrived" (V.int 0) (putF "ranges" (V.ref ar) (putF "state" V.non [])))) = H4 at *
    have l4 : (putF "paired" (V.int 0) (putF "arrived" (V.int 0) (putF "ranges" (V.ref ar) (putF "state" V.non [])))).length ≤ 4 := ls l3
    refine ⟨_, rfl, p, C, dx, _, rfl, h4, TS.cl, TS.n4, by omega, ?_⟩
    have h5 : (upd H4 p (.ins C dx (putF "paired" (V.int 0) (putF "arrived" (V.int 0) (putF "ranges" (V.ref ar) (putF "state" V.non [])))))) p = some (.ins C dx (putF "paired" (V.int 0) (putF "arrived" (V.int 0) (putF "ranges" (V.ref ar) (putF "state" V.non []))))) := upd_same
    have b5 : But p H4 (upd H4 p (.ins C dx (putF "paired" (V.int 0) (putF "arrived" (V.int 0) (putF "ranges" (V.ref ar) (putF "state" V.non [])))))) := but_upd
    generalize upd H4 p (.ins C dx (putF "paired" (V.int 0) (putF "arrived" (V.int 0) (putF "ranges" (V.ref ar) (putF "state" V.non []))))) = H5 at *
    refine ⟨Nat.zero_le _, fun ab nb => ?_⟩
    have s6 := same_upd (o := .lst []) nb
    have hb6 : (upd H5 ab (.lst [])) ab = some (.lst []) := upd_same
    generalize upd H5 ab (.lst []) = H6 at *
    have pb : ab ≠ p := (ne_of_none h5 nb).symm
    have l5 : (putF "blocks" (V.ref ab) (putF "paired" (V.int 0) (putF "arrived" (V.int 0) (putF "ranges" (V.ref ar) (putF "state" V.non []))))).length ≤ 5 := ls l4
    refine ⟨_, rfl, p, C, dx, _, rfl, s6 _ _ h5, TS.cl, TS.n5, by omega, ?_⟩
    have h7 : (upd H6 p (.ins C dx (putF "blocks" (V.ref ab) (putF "paired" (V.int 0) (putF "arrived" (V.int 0) (putF "ranges" (V.ref ar) (putF "state" V.non []))))))) p = some (.ins C dx (putF "blocks" (V.ref ab) (putF "paired" (V.int 0) (putF "arrived" (V.int 0) (putF "ranges" (V.ref ar) (putF "state" V.non [])))))) := upd_same
    have b7 : But p H6 (upd H6 p (.ins C dx (putF "blocks" (V.ref ab) (putF "paired" (V.int 0) (putF "arrived" (V.int 0) (putF "ranges" (V.ref ar) (putF "state" V.non []))))))) := but_upd
    generalize upd H6 p (.ins C dx (putF "blocks" (V.ref ab) (putF "paired" (V.int 0) (putF "arrived" (V.int 0) (putF "ranges" (V.ref ar) (putF "state" V.non [])))))) = H7 at *
    refine ⟨Nat.zero_le _, fun ap na => ?_⟩
    have s8 := same_upd (o := .lst []) na
    have ha8 : (upd H7 ap (.lst [])) ap = some (.lst []) := upd_same
    generalize upd H7 ap (.lst []) = H8 at *
    have pa : ap ≠ p := (ne_of_none h7 na).symm
    refine ⟨_, rfl, p, C, dx, _, rfl, s8 _ _ h7, TS.cl, TS.n6, by omega, ?_⟩
    have B7 : But p H H7 := b1.trans ((Same.but s2).trans (b3.trans (b4.trans (b5.trans ((Same.but s6).trans b7)))))
    have r7 : H7 ar = some (.lst []) := b7 _ _ pr (s6 _ _ (b5 _ _ pr (b4 _ _ pr (b3 _ _ pr hr2))))
    have q7 : H7 ab = some (.lst []) := b7 _ _ pb hb6
    have fr : ∀ {H0 : Hp} {x : Addr}, But p H H0 → H0 x = none → x ≠ p → H x = none := fun {H0 x} b e n => by
      cases z : H x with
      | none => rfl
      | some o =>
        rw [b _ _ n z] at e
        cases e
    refine q _ ap ar ab ((B7.trans (Same.but s8)).trans but_upd) (fr B7 na pa) (fr b1 nr pr) (fr (b1.trans ((Same.but s2).trans (b3.trans (b4.trans b5)))) nb pb)
      ⟨⟨dx, .non, upd_same, rfl⟩, ⟨[], but_upd _ _ pr (s8 _ _ r7), .nil⟩, ⟨[], but_upd _ _ pb (s8 _ _ q7), .nil⟩, ⟨[], but_upd _ _ pa ha8, .nil⟩, ?_, ?_⟩
    · exact (ne_of_none r7 na).symm
    · exact (ne_of_none q7 na).symm
/-! Station.remember: slots 0:self 1:operation 2:before -/
abbrev s_Station_remember : Stmt := inClass (topS 42) 3
theorem sc_Station_remember : FnScope ["self", "operation", "before"] ["self", "operation"] (defScope s_Station_remember) := ⟨rfl, rfl, rfl, by decide +kernel, rfl, by decide +kernel, by decide +kernel⟩
end
end UP

set_option Elab.async false
set_option linter.all false
set_option maxRecDepth 100000
set_option maxHeartbeats 4000000
set_option pp.maxSteps 300
namespace UP
open PySem PySem.Spec PyProof.Rows L2
theorem num_le {st : Option Run} (h : PosO st) : 0 ≤ numR st := by
  cases st with
  | none => exact Int.le_refl _
  | some r =>
    have := h r rfl
    show 0 ≤ r.2
    omega
section
variable {P : Program} {w : World} {K : PySem.W.Frag} {mg : Str → Option Value} {base : Heap} {C : Addr}
/-! Station.arrive: slots 0:self 1:kind 2:count 3:leaving -/
abbrev s_Station_arrive : Stmt := inClass (topS 42) 4
theorem sc_Station_arrive : FnScope ["self", "kind", "count", "leaving"] ["self", "kind", "count"] (defScope s_Station_arrive) := ⟨rfl, rfl, rfl, by decide +kernel, rfl, by decide +kernel, by decide +kernel⟩
/-! Station.give_up: slots 0:self 1:index 2:count 3:waiting 4:later -/
abbrev s_Station_give_up : Stmt := inClass (topS 42) 5
theorem sc_Station_give_up : FnScope ["self", "index", "count", "waiting", "later"] ["self", "index", "count"] (defScope s_Station_give_up) := ⟨rfl, rfl, rfl, by decide +kernel, rfl, by decide +kernel, by decide +kernel⟩
/-! Station.current_state: slots 0:self -/
abbrev s_Station_current_state : Stmt := inClass (topS 42) 7
theorem sc_Station_current_state : FnScope ["self"] ["self"] (defScope s_Station_current_state) := ⟨rfl, rfl, rfl, by decide +kernel, rfl, by decide +kernel, by decide +kernel⟩
def sp_Station_current_state (C : Addr) : Sp := fun vs H Q _ => ∃ (p ap ar ab : Addr) (S : Sta) (ops : List Op), vs = [.ref p] ∧ Stn C H p ap ar ab S ops ∧ ∀ v, StV H v S.st → Q v H
theorem ok_Station_current_state (D : DfM K C "current_state" "Station.current_state" s_Station_current_state) (TS : ClsT K mg C) : HasM P w K mg base C 1 "current_state" ["self"] (sp_Station_current_state C) := by
  refine hasM_of D sc_Station_current_state (fun _ _ _ _ _ _ us hl => match us, hl with | [_], _ => rfl) (fun vs H Q E h => ?_) (fun f cdv A outer s₀ H vs Q E hr h => ?_)
  · obtain ⟨_, _, _, _, _, _, rfl, _⟩ := h
    rfl
  · obtain ⟨p, ap, ar, ab, S, ops, rfl, z, q⟩ := h
    obtain ⟨⟨dx, v, hp, hv⟩, _⟩ := z
    refine ⟨_, (pss_one (ps_ret (pe_fld (pv 0) rfl))), ?_⟩
    exact ⟨_, rfl, p, C, dx, _, _, rfl, hp, TS.cl, TS.n1, fl6_state .., q _ hv⟩
/-! Station.waiting_positions: slots 0:self -/
abbrev s_Station_waiting_positions : Stmt := inClass (topS 42) 8
theorem sc_Station_waiting_positions : FnScope ["self"] ["self"] (defScope s_Station_waiting_positions) := ⟨rfl, rfl, rfl, by decide +kernel, rfl, by decide +kernel, by decide +kernel⟩
def sp_Station_waiting_positions (C : Addr) : Sp := fun vs H Q _ => ∃ (p ap ar ab : Addr) (S : Sta) (ops : List Op), vs = [.ref p] ∧ Stn C H p ap ar ab S ops ∧ ∀ H' l, Same H H' → H l = none → Rngs H' l S.R → Q (.ref l) H'
theorem ok_Station_waiting_positions (D : DfM K C "waiting_positions" "Station.waiting_positions" s_Station_waiting_positions) (T : Tx mg) (TS : ClsT K mg C) : HasM P w K mg base C 1 "waiting_positions" ["self"] (sp_Station_waiting_positions C) := by
  refine hasM_of D sc_Station_waiting_positions (fun _ _ _ _ _ _ us hl => match us, hl with | [_], _ => rfl) (fun vs H Q E h => ?_) (fun f cdv A outer s₀ H vs Q E hr h => ?_)
  · obtain ⟨_, _, _, _, _, _, rfl, _⟩ := h
    rfl
  · obtain ⟨p, ap, ar, ab, S, ops, rfl, z, q⟩ := h
    obtain ⟨⟨dx, v, hp, hv⟩, ⟨xs, hx, hxp⟩, _⟩ := z
    refine ⟨_, (pss_one (ps_ret (pe_callTy call_list_of (by rfl) T.n_list (by decide +kernel) (pa_cons (pe_fld (pv 0) rfl) pa_nil)))), ?_⟩
    exact ⟨_, rfl, p, C, dx, _, _, rfl, hp, TS.cl, TS.n2, fl6_ranges .., ar, xs, rfl, .inl (.of hx), fun l nl => q _ l (same_upd nl) nl ⟨xs, upd_same, pvs_same (same_upd nl) hxp⟩⟩
/-! Station.arrival_count: slots 0:self -/
abbrev s_Station_arrival_count : Stmt := inClass (topS 42) 9
theorem sc_Station_arrival_count : FnScope ["self"] ["self"] (defScope s_Station_arrival_count) := ⟨rfl, rfl, rfl, by decide +kernel, rfl, by decide +kernel, by decide +kernel⟩
def sp_Station_arrival_count (C : Addr) : Sp := fun vs H Q _ => ∃ (p ap ar ab : Addr) (S : Sta) (ops : List Op), vs = [.ref p] ∧ Stn C H p ap ar ab S ops ∧ Q (.int S.n) H
theorem ok_Station_arrival_count (D : DfM K C "arrival_count" "Station.arrival_count" s_Station_arrival_count) (TS : ClsT K mg C) : HasM P w K mg base C 1 "arrival_count" ["self"] (sp_Station_arrival_count C) := by
  refine hasM_of D sc_Station_arrival_count (fun _ _ _ _ _ _ us hl => match us, hl with | [_], _ => rfl) (fun vs H Q E h => ?_) (fun f cdv A outer s₀ H vs Q E hr h => ?_)
  · obtain ⟨_, _, _, _, _, _, rfl, _⟩ := h
    rfl
  · obtain ⟨p, ap, ar, ab, S, ops, rfl, z, q⟩ := h
    obtain ⟨⟨dx, v, hp, hv⟩, _⟩ := z
    refine ⟨_, (pss_one (ps_ret (pe_fld (pv 0) rfl))), ?_⟩
    exact ⟨_, rfl, p, C, dx, _, _, rfl, hp, TS.cl, TS.n3, fl6_arrived .., q⟩
/-! Station.pair_total: slots 0:self -/
abbrev s_Station_pair_total : Stmt := inClass (topS 42) 10
theorem sc_Station_pair_total : FnScope ["self"] ["self"] (defScope s_Station_pair_total) := ⟨rfl, rfl, rfl, by decide +kernel, rfl, by decide +kernel, by decide +kernel⟩
def sp_Station_pair_total (C : Addr) : Sp := fun vs H Q _ => ∃ (p ap ar ab : Addr) (S : Sta) (ops : List Op), vs = [.ref p] ∧ Stn C H p ap ar ab S ops ∧ Q (.int S.m) H
theorem ok_Station_pair_total (D : DfM K C "pair_total" "Station.pair_total" s_Station_pair_total) (TS : ClsT K mg C) : HasM P w K mg base C 1 "pair_total" ["self"] (sp_Station_pair_total C) := by
  refine hasM_of D sc_Station_pair_total (fun _ _ _ _ _ _ us hl => match us, hl with | [_], _ => rfl) (fun vs H Q E h => ?_) (fun f cdv A outer s₀ H vs Q E hr h => ?_)
  · obtain ⟨_, _, _, _, _, _, rfl, _⟩ := h
    rfl
  · obtain ⟨p, ap, ar, ab, S, ops, rfl, z, q⟩ := h
    obtain ⟨⟨dx, v, hp, hv⟩, _⟩ := z
    refine ⟨_, (pss_one (ps_ret (pe_fld (pv 0) rfl))), ?_⟩
    exact ⟨_, rfl, p, C, dx, _, _, rfl, hp, TS.cl, TS.n4, fl6_paired .., q⟩
/-! Station.give_up_count: slots 0:self -/
abbrev s_Station_give_up_count : Stmt := inClass (topS 42) 11
theorem sc_Station_give_up_count : FnScope ["self"] ["self"] (defScope s_Station_give_up_count) := ⟨rfl, rfl, rfl, by decide +kernel, rfl, by decide +kernel, by decide +kernel⟩
def sp_Station_give_up_count (C : Addr) : Sp := fun vs H Q _ => ∃ (p ap ar ab : Addr) (S : Sta) (ops : List Op), vs = [.ref p] ∧ Stn C H p ap ar ab S ops ∧ Q (.int (S.n - 2 * S.m - numR S.st)) H
theorem ok_Station_give_up_count (D : DfM K C "give_up_count" "Station.give_up_count" s_Station_give_up_count) (TS : ClsT K mg C) (G_waiting_number : Has P w K mg base 1 "waiting_number" ["state"] sp_waiting_number) : HasM P w K mg base C 2 "give_up_count" ["self"] (sp_Station_give_up_count C) := by
  refine hasM_of D sc_Station_give_up_count (fun _ _ _ _ _ _ us hl => match us, hl with | [_], _ => rfl) (fun vs H Q E h => ?_) (fun f cdv A outer s₀ H vs Q E hr h => ?_)
  · obtain ⟨_, _, _, _, _, _, rfl, _⟩ := h
    rfl
  · obtain ⟨p, ap, ar, ab, S, ops, rfl, z, q⟩ := h
    obtain ⟨⟨dx, v, hp, hv⟩, _⟩ := z
    refine ⟨_, (pss_one (ps_ret (pe_op op_sub (pe_op op_sub (pe_fld (pv 0) rfl) (pe_op op_mul pe_int (pe_fld (pv 0) rfl))) (pe_callH G_waiting_number (hr.mono (by omega)) (by rfl) (pa_cons (pe_fld (pv 0) rfl) pa_nil))))), ?_⟩
    exact ⟨_, rfl, p, C, dx, _, _, rfl, hp, TS.cl, TS.n3, fl6_arrived .., _, rfl, p, C, dx, _, _, rfl, hp, TS.cl, TS.n4, fl6_paired .., _, _, rfl, rfl, .inl ⟨by decide, by decide⟩, _, _, rfl, rfl, _, rfl, p, C, dx, _, _, rfl, hp, TS.cl, TS.n1, fl6_state .., v, S.st, rfl, hv, _, _, rfl, rfl, q⟩
/-! Station.partner_at: slots 0:self 1:position -/
abbrev s_Station_partner_at : Stmt := inClass (topS 42) 12
theorem sc_Station_partner_at : FnScope ["self", "position"] ["self", "position"] (defScope s_Station_partner_at) := ⟨rfl, rfl, rfl, by decide +kernel, rfl, by decide +kernel, by decide +kernel⟩
def sp_Station_partner_at (C : Addr) : Sp := fun vs H Q _ => ∃ (p ap ar ab : Addr) (S : Sta) (ops : List Op) (i : Int), vs = [.ref p, .int i] ∧ Stn C H p ap ar ab S ops ∧ 0 ≤ i ∧ i < S.n ∧ Q (oI (pgR S.B i)) H
theorem ok_Station_partner_at (D : DfM K C "partner_at" "Station.partner_at" s_Station_partner_at) (TS : ClsT K mg C) (G_is_within : Has P w K mg base 2 "is_within" ["value", "low", "high"] sp_is_within) (G_partner_in : Has P w K mg base 1 "partner_in" ["blocks", "position"] sp_partner_in) : HasM P w K mg base C 3 "partner_at" ["self", "position"] (sp_Station_partner_at C) := by
  refine hasM_of D sc_Station_partner_at (fun _ _ _ _ _ _ us hl => match us, hl with | [_, _], _ => rfl) (fun vs H Q E h => ?_) (fun f cdv A outer s₀ H vs Q E hr h => ?_)
  · obtain ⟨_, _, _, _, _, _, _, rfl, _⟩ := h
    rfl
  · obtain ⟨p, ap, ar, ab, S, ops, i, rfl, z, i0, i1, q⟩ := h
    obtain ⟨⟨dx, v, hp, hv⟩, _, hB, _⟩ := z
    refine ⟨_, (pss_cons (ps_if (pt_not (pt_val (pe_callH G_is_within (hr.mono (by omega)) (by rfl) (pa_cons (pv 1) (pa_cons pe_int (pa_cons (pe_op op_sub (pe_fld (pv 0) rfl) pe_int) pa_nil)))))) (pss_one ps_never) pss_nil)
    (pss_one (ps_ret (pe_callH G_partner_in (hr.mono (by omega)) (by rfl) (pa_cons (pe_fld (pv 0) rfl) (pa_cons (pv 1) pa_nil)))))), ?_⟩
    refine ⟨_, rfl, _, rfl, p, C, dx, _, _, rfl, hp, TS.cl, TS.n3, fl6_arrived .., _, _, rfl, rfl, i, 0, _, rfl, _, rfl, iteN ?_ ?_⟩
    · rw [decide_eq_true ⟨i0, by omega⟩]
      rfl
    exact ⟨_, rfl, p, C, dx, _, _, rfl, hp, TS.cl, TS.n5, fl6_blocks .., _, rfl, ab, S.B, i, rfl, hB, q⟩
end
end UP

set_option Elab.async false
set_option linter.all false
set_option maxRecDepth 100000
set_option maxHeartbeats 4000000
set_option pp.maxSteps 300
namespace UP
open PySem PySem.Spec PyProof.Rows L2
/-! ### items one by one at a station -/
structure Mod where
  k : Str
  q : List Int
  P : List Pr
  c : Int
  g : Int
def oneM (M : Mod) (k : Str) : Mod := if M.q = [] ∨ M.k = k then ⟨k, M.q ++ [M.c], M.P, M.c + 1, M.g⟩ else ⟨M.k, M.q.drop 1, M.P ++ zpL (M.q.take 1) M.c, M.c + 1, M.g⟩
def arrM (M : Mod) (k : Str) : Nat → Mod
  | 0 => M
  | n + 1 => oneM (arrM M k n) k
def levM (M : Mod) (i n : Nat) : Mod := ⟨M.k, M.q.take i ++ M.q.drop (i + n), M.P, M.c, M.g + n⟩
theorem arr_c (M : Mod) (k : Str) : ∀ n : Nat, (arrM M k n).c = M.c + n
  | 0 => by
    show M.c = M.c + ((0 : Nat) : Int)
    omega
  | n + 1 => by
    have := arr_c M k n
    show (oneM (arrM M k n) k).c = _
    unfold oneM
    split
    · show (arrM M k n).c + 1 = _
      omega
    · show (arrM M k n).c + 1 = _
      omega
theorem arr_g (M : Mod) (k : Str) : ∀ n : Nat, (arrM M k n).g = M.g
  | 0 => rfl
  | n + 1 => by
    show (oneM (arrM M k n) k).g = _
    unfold oneM
    split <;> exact arr_g M k n
/-- the same kind, or nobody: all wait -/
theorem arr_same {M : Mod} {k : Str} (h : M.q = [] ∨ M.k = k) : ∀ n : Nat, (arrM M k n).q = M.q ++ posL M.c n ∧ (arrM M k n).P = M.P ∧ (arrM M k n).k = if n = 0 then M.k else k
  | 0 => ⟨(List.append_nil _).symm, rfl, rfl⟩
  | n + 1 => by
    obtain ⟨h1, h2, h3⟩ := arr_same h n
    have c : (arrM M k n).q = [] ∨ (arrM M k n).k = k := by
      by_cases n0 : n = 0
      · subst n0
        exact h
      · exact .inr (by rw [h3, if_neg n0])
    have e : arrM M k (n + 1) = ⟨k, (arrM M k n).q ++ [(arrM M k n).c], (arrM M k n).P, (arrM M k n).c + 1, (arrM M k n).g⟩ := if_pos c
    rw [e]
    refine ⟨?_, h2, by rw [if_neg (by omega)]⟩
    show (arrM M k n).q ++ [(arrM M k n).c] = _
    rw [h1, arr_c, posL_app n 1, List.append_assoc]
    rfl
theorem zp_take {q : List Int} {n : Nat} {x c : Int} (h : q[n]? = some x) : zpL (q.take (n + 1)) c = zpL (q.take n) c ++ [(x, c + n)] := by
  rw [take_snoc h, zpL_app]
  have : (q.take n).length = n := by
    have := (List.getElem?_eq_some_iff.mp h).1
    rw [List.length_take]
    omega
  rw [this]
  rfl
/-- another kind: pairs leave, what is left over waits -/
theorem arr_other {M : Mod} {k : Str} (h : ¬ (M.q = [] ∨ M.k = k)) : ∀ n : Nat, (arrM M k n).q = M.q.drop n ++ posL (M.c + M.q.length) (n - M.q.length) ∧ (arrM M k n).P = M.P ++ zpL (M.q.take n) M.c ∧ (arrM M k n).k = if M.q.length < n then k else M.k
  | 0 => by
    refine ⟨?_, ?_, ?_⟩
    · rw [Nat.zero_sub]
      exact (List.append_nil _).symm
    · exact (List.append_nil _).symm
    · rw [if_neg (by omega)]
      rfl
  | n + 1 => by
    obtain ⟨h1, h2, h3⟩ := arr_other h n
    have hc := arr_c M k n
    have hk : ¬ M.k = k := fun z => h (.inr z)
    by_cases c : n < M.q.length
    · obtain ⟨x, ex⟩ : ∃ x, M.q[n]? = some x := ⟨_, List.getElem?_eq_getElem c⟩
      have eq : (arrM M k n).q = x :: M.q.drop (n + 1) := by
        rw [h1, show n - M.q.length = 0 by omega, drop_at ex]
        exact List.append_nil _
      have ek : (arrM M k n).k = M.k := by rw [h3, if_neg (by omega)]
      have e : arrM M k (n + 1) = ⟨(arrM M k n).k, (arrM M k n).q.drop 1, (arrM M k n).P ++ zpL ((arrM M k n).q.take 1) (arrM M k n).c, (arrM M k n).c + 1, (arrM M k n).g⟩ := if_neg (by
        rintro (z | z)
        · rw [eq] at z
          cases z
        · exact hk (by rw [← ek]; exact z))
      rw [e]
      refine ⟨?_, ?_, ?_⟩
      · show (arrM M k n).q.drop 1 = _
        rw [eq, show n + 1 - M.q.length = 0 by omega]
        exact (List.append_nil _).symm
      · show (arrM M k n).P ++ zpL ((arrM M k n).q.take 1) (arrM M k n).c = _
        rw [h2, eq, hc, zp_take ex, List.append_assoc]
        rfl
      · show (arrM M k n).k = _
        rw [ek, if_neg (by omega)]
    · have e : arrM M k (n + 1) = ⟨k, (arrM M k n).q ++ [(arrM M k n).c], (arrM M k n).P, (arrM M k n).c + 1, (arrM M k n).g⟩ := if_pos (by
        by_cases c2 : n = M.q.length
        · refine .inl ?_
          rw [h1, List.drop_of_length_le (by omega), show n - M.q.length = 0 by omega]
          rfl
        · exact .inr (by rw [h3, if_pos (by omega)]))
      rw [e]
      refine ⟨?_, ?_, ?_⟩
      · show (arrM M k n).q ++ [(arrM M k n).c] = _
        rw [h1, hc, List.drop_of_length_le (by omega), List.drop_of_length_le (by omega), show n + 1 - M.q.length = (n - M.q.length) + 1 by omega, posL_app (n - M.q.length) 1, List.nil_append, List.nil_append, show M.c + (M.q.length : Int) + ((n - M.q.length : Nat) : Int) = M.c + n by omega]
        rfl
      · show (arrM M k n).P = _
        rw [h2, List.take_of_length_le (by omega), List.take_of_length_le (by omega)]
      · show k = _
        rw [if_pos (by omega)]
/-! ### each position stands once -/
structure MOk (M : Mod) : Prop where
  u : U M.P
  qn : M.q.Nodup
  qb : ∀ x ∈ M.q, 0 ≤ x ∧ x < M.c
  pb : ∀ p ∈ M.P, (0 ≤ p.1 ∧ p.1 < M.c) ∧ 0 ≤ p.2 ∧ p.2 < M.c
  qp : ∀ x ∈ M.q, ∀ p ∈ M.P, p.1 ≠ x ∧ p.2 ≠ x
  c0 : 0 ≤ M.c
theorem MOk.one {M : Mod} (h : MOk M) (k : Str) : MOk (oneM M k) := by
  obtain ⟨u, qn, qb, pb, qp, c0⟩ := h
  unfold oneM
  split
  · refine ⟨u, ?_, fun x hx => ?_, fun p hp => ?_, fun x hx p hp => ?_, by show 0 ≤ M.c + 1; omega⟩
    · show (M.q ++ [M.c]).Nodup
      refine List.nodup_append.mpr ⟨qn, List.nodup_cons.mpr ⟨(by simp), List.nodup_nil⟩, fun a ha b hb => ?_⟩
      rw [List.mem_singleton.mp hb]
      have := qb a ha
      omega
    · show 0 ≤ x ∧ x < M.c + 1
      rcases List.mem_append.mp hx with z | z
      · have := qb x z
        omega
      · rw [List.mem_singleton.mp z]
        omega
    · have := pb p hp
      show (0 ≤ p.1 ∧ p.1 < M.c + 1) ∧ 0 ≤ p.2 ∧ p.2 < M.c + 1
      omega
    · rcases List.mem_append.mp hx with z | z
      · exact qp x z p hp
      · rw [List.mem_singleton.mp z]
        have := pb p hp
        omega
  · rename_i hn
    cases eq : M.q with
    | nil => exact absurd (.inl eq) hn
    | cons x t =>
      rw [eq] at qn qb qp
      have hx := qb x (List.mem_cons_self ..)
      have xt := (List.nodup_cons.mp qn).1
      have mP : ∀ p ∈ M.P ++ zpL ((x :: t).take 1) M.c, p ∈ M.P ∨ p = (x, M.c) := fun p hp => by
        rcases List.mem_append.mp hp with z | z
        · exact .inl z
        · exact .inr (List.mem_singleton.mp z)
      have qx := qp x (List.mem_cons_self ..)
      refine ⟨⟨fun a ha b hb e => ?_, fun a ha b hb e => ?_, fun a ha b hb e => ?_⟩, (List.nodup_cons.mp qn).2, fun y hy => ?_, fun p hp => ?_, fun y hy p hp => ?_, by show 0 ≤ M.c + 1; omega⟩
      · rcases mP a ha with z | z <;> rcases mP b hb with y | y
        · exact u.fst a z b y e
        · rw [y] at e
          exact absurd e (qx a z).1
        · rw [z] at e
          exact absurd e.symm (qx b y).1
        · rw [z, y]
      · rcases mP a ha with z | z <;> rcases mP b hb with y | y
        · exact u.snd a z b y e
        · rw [y] at e
          have := pb a z
          have e : a.2 = M.c := e
          omega
        · rw [z] at e
          have := pb b y
          have e : M.c = b.2 := e
          omega
        · rw [z, y]
      · rcases mP a ha with z | z <;> rcases mP b hb with y | y
        · exact u.dis a z b y e
        · rw [y] at e
          have := pb a z
          have e : a.1 = M.c := e
          omega
        · rw [z] at e
          exact (qx b y).2 e.symm
        · rw [z, y] at e
          have e : x = M.c := e
          omega
      · have := qb y (List.mem_cons_of_mem _ hy)
        show 0 ≤ y ∧ y < M.c + 1
        omega
      · show (0 ≤ p.1 ∧ p.1 < M.c + 1) ∧ 0 ≤ p.2 ∧ p.2 < M.c + 1
        rcases mP p hp with z | z
        · have := pb p z
          omega
        · rw [z]
          show (0 ≤ x ∧ x < M.c + 1) ∧ 0 ≤ M.c ∧ M.c < M.c + 1
          omega
      · have hy : y ∈ t := hy
        have b := qb y (List.mem_cons_of_mem _ hy)
        rcases mP p hp with z | z
        · exact qp y (List.mem_cons_of_mem _ hy) p z
        · rw [z]
          refine ⟨fun e => ?_, ?_⟩
          · have e : x = y := e
            rw [e] at xt
            exact xt hy
          · show M.c ≠ y
            omega
theorem MOk.arr {M : Mod} (h : MOk M) (k : Str) : ∀ n, MOk (arrM M k n)
  | 0 => h
  | n + 1 => (MOk.arr h k n).one k
theorem mem_lev {q : List Int} {i n : Nat} {x : Int} (h : x ∈ q.take i ++ q.drop (i + n)) : x ∈ q := by
  rcases List.mem_append.mp h with z | z
  · exact List.mem_of_mem_take z
  · exact List.mem_of_mem_drop z
theorem MOk.lev {M : Mod} (h : MOk M) (i n : Nat) : MOk (levM M i n) := by
  obtain ⟨u, qn, qb, pb, qp, c0⟩ := h
  refine ⟨u, ?_, fun x hx => qb x (mem_lev hx), pb, fun x hx => qp x (mem_lev hx), c0⟩
  show (M.q.take i ++ M.q.drop (i + n)).Nodup
  have sub : (M.q.take i ++ M.q.drop (i + n)).Sublist M.q := by
    have h1 : (M.q.drop (i + n)).Sublist (M.q.drop i) := by
      rw [← List.drop_drop]
      exact List.drop_sublist _ _
    have h2 := List.Sublist.append (List.Sublist.refl (M.q.take i)) h1
    rw [List.take_append_drop] at h2
    exact h2
  exact sub.nodup qn
/-! ### the station and its items -/
structure MR (M : Mod) (S : Sta) : Prop where
  st : S.st = if M.q = [] then none else some (M.k, (M.q.length : Int))
  fl : flR S.R = M.q
  gd : Gd S.R M.c
  n : S.n = M.c
  m : S.m = M.P.length
  fb : flB S.B = M.P
  pb : PosB S.B
  tot : M.c = 2 * (M.P.length : Int) + (M.q.length : Int) + M.g
  ok : MOk M
theorem Gd.snocR {b : Int} {p : Rg} : ∀ {R : List Rg}, Gd (R ++ [p]) b → Gd R b ∧ p.1 ≤ p.2
  | [], g => ⟨True.intro, g.1⟩
  | [q], g => ⟨⟨g.1, g.2.1, (fun x h => by cases h), True.intro⟩, g.2.2.2.1⟩
  | q :: r :: t, g => by
    obtain ⟨h1, h2⟩ := Gd.snocR (R := r :: t) g.2.2.2
    exact ⟨⟨g.1, g.2.1, (fun x h => g.2.2.1 x h), h1⟩, h2⟩
theorem fl_ad {b f e : Int} : ∀ {W : List Rg}, Gd W b → b ≤ f → f ≤ e → flR (adR W f e) = flR W ++ posL f (e - f + 1).toNat ∧ Gd (adR W f e) (e + 1) := by
  intro W g h1 h2
  rcases List.eq_nil_or_concat W with e0 | ⟨W0, y, e0⟩
  · subst e0
    refine ⟨?_, ?_⟩
    · show flP (f, e) ++ [] = [] ++ _
      rw [List.append_nil, List.nil_append]
      rfl
    · exact Gd.snoc (R := []) (b := e + 1) (p := (f, e)) True.intro h2 (by show e < e + 1; omega) (fun l h => by cases h)
  · rw [List.concat_eq_append] at e0
    subst e0
    have gl := Gd.last g y List.getLast?_concat
    have gap := Gd.gap g
    have ead : adR (W0 ++ [y]) f e = if y.2 + 1 = f then W0 ++ [(y.1, e)] else (W0 ++ [y]) ++ [(f, e)] := by
      unfold adR
      rw [List.getLast?_concat]
      show (if y.2 + 1 = f then _ else _) = _
      rw [List.dropLast_concat]
    have g0 : Gd W0 b ∧ y.1 ≤ y.2 := Gd.snocR g
    rw [ead]
    split
    · rename_i hy
      refine ⟨?_, Gd.snoc (p := (y.1, e)) (g0.1.mono (by omega)) (by show y.1 ≤ e; omega) (by show e < e + 1; omega) (fun l hl => gap l hl)⟩
      rw [flR_app, flR_app, List.append_assoc]
      congr 1
      show flP (y.1, e) ++ [] = (flP y ++ []) ++ posL f (e - f + 1).toNat
      rw [List.append_nil, List.append_nil]
      unfold flP
      have e1 : (e - y.1 + 1).toNat = (y.2 - y.1 + 1).toNat + (e - f + 1).toNat := by omega
      show posL y.1 (e - y.1 + 1).toNat = _
      rw [e1, posL_app, show y.1 + ((y.2 - y.1 + 1).toNat : Int) = f by omega]
    · rename_i hy
      refine ⟨?_, Gd.snoc (p := (f, e)) (g.mono (by omega)) h2 (by show e < e + 1; omega) (fun l hl => ?_)⟩
      · rw [flR_app]
        congr 1
        show flP (f, e) ++ [] = _
        rw [List.append_nil]
        rfl
      · rw [List.getLast?_concat] at hl
        cases hl
        show y.2 + 1 < f
        omega
theorem step_none {k : Str} {c : Int} (h : 1 ≤ c) : stepR none k c = some (k, c) := rfl
theorem len_posL (a : Int) (n : Nat) : (posL a n).length = n := posL_len n a
/-- arrivals -/
theorem MR.arr {M : Mod} {S : Sta} (h : MR M S) (k : Str) {n : Nat} (n1 : 1 ≤ n) : MR (arrM M k n) (arrS S k n) ∧ leavR S.st k n = ((arrM M k n).P.length : Int) - M.P.length := by
  obtain ⟨st, fl, gd, hn, hm, fb, pb, tot, ok⟩ := h
  have hc := arr_c M k n
  have hg := arr_g M k n
  have ok' := ok.arr k n
  by_cases c : M.q = [] ∨ M.k = k
  · obtain ⟨q1, q2, q3⟩ := arr_same c n
    rw [if_neg (by omega)] at q3
    have lv : leavR S.st k n = 0 := by
      rw [st]
      split
      · rfl
      · rename_i z
        have : M.k = k := by
          rcases c with c | c
          · exact absurd c z
          · exact c
        exact if_pos this
    have hw : wfR S.R 0 = S.R := wf_zero gd
    have er : rarR S.R S.n n 0 = adR S.R M.c (M.c + n - 1) := by
      unfold rarR
      rw [if_pos (by omega), hw, hn, Int.add_zero]
    obtain ⟨a1, a2⟩ := fl_ad (e := M.c + n - 1) gd (Int.le_refl _) (by omega)
    have fb0 : flB (brR S.R S.n 0) = [] := by
      rw [fl_br gd (Int.le_refl _)]
      rfl
    refine ⟨⟨?_, ?_, ?_, ?_, ?_, ?_, ?_, ?_, ok'⟩, by rw [lv, q2]; omega⟩
    · show stepR S.st k n = _
      have ne : ¬ (arrM M k n).q = [] := fun z => by
        have := congrArg List.length z
        rw [q1, List.length_append, len_posL] at this
        have : M.q.length + n = 0 := this
        omega
      rw [if_neg ne, q3, q1, List.length_append, len_posL, st]
      split
      · rename_i z
        rw [z]
        show stepR none k n = some (k, ((0 + n : Nat) : Int))
        rw [Nat.zero_add]
        exact step_none (by omega)
      · rename_i z
        have e : M.k = k := by
          rcases c with c | c
          · exact absurd c z
          · exact c
        rw [step_same (r := (M.k, (M.q.length : Int))) e]
        rfl
    · show flR (rarR S.R S.n n (leavR S.st k n)) = _
      rw [lv, er, a1, fl, q1, show (M.c + (n : Int) - 1 - M.c + 1).toNat = n by omega]
    · show Gd (rarR S.R S.n n (leavR S.st k n)) _
      rw [lv, er, hc]
      exact a2.mono (by omega)
    · show S.n + n = _
      rw [hn, hc]
    · show S.m + leavR S.st k n = _
      rw [lv, hm, q2, Int.add_zero]
    · show flB (S.B ++ brR S.R S.n (leavR S.st k n)) = _
      rw [lv, flB_app, fb, fb0, q2, List.append_nil]
    · intro x hx
      rcases List.mem_append.mp hx with z | z
      · exact pb x z
      · exact pos_brR _ _ _ x z
    · rw [hc, hg, q1, q2, List.length_append, len_posL]
      omega
  · obtain ⟨q1, q2, q3⟩ := arr_other c n
    have qne : ¬ M.q = [] := fun z => c (.inl z)
    have kne : M.k ≠ k := fun z => c (.inr z)
    have l1 : 1 ≤ M.q.length := by
      cases e : M.q with
      | nil => exact absurd e qne
      | cons x t =>
        show 1 ≤ t.length + 1
        omega
    rw [if_neg qne] at st
    obtain ⟨l, el⟩ : ∃ l : Nat, l = min M.q.length n := ⟨_, rfl⟩
    have lv : leavR S.st k n = l := by
      rw [st]
      show (if M.k = k then (0 : Int) else if (n : Int) < M.q.length then n else M.q.length) = l
      rw [if_neg kne]
      split <;> omega
    have pl : (arrM M k n).P.length = M.P.length + l := by
      rw [q2, List.length_append, zpL_len, List.length_take]
      omega
    have wfl : flR (wfR S.R l) = M.q.drop l := by
      rw [wf_flat gd (by omega), fl, Int.toNat_natCast]
    have wgd : Gd (wfR S.R l) M.c := wf_good gd (by omega)
    have fbl : flB (brR S.R S.n l) = zpL (M.q.take n) M.c := by
      rw [fl_br gd (by omega), fl, hn, Int.toNat_natCast]
      congr 1
      by_cases c2 : n ≤ M.q.length
      · rw [show l = n by omega]
      · rw [List.take_of_length_le (by omega), List.take_of_length_le (by omega)]
    refine ⟨⟨?_, ?_, ?_, ?_, ?_, ?_, ?_, ?_, ok'⟩, by rw [lv, pl]; omega⟩
    · show stepR S.st k n = _
      rw [st, step_other (r := (M.k, (M.q.length : Int))) kne, q1, q3]
      show (if 0 < (M.q.length : Int) - n then some (M.k, (M.q.length : Int) - n) else if (M.q.length : Int) - n = 0 then none else some (k, -((M.q.length : Int) - n))) = _
      by_cases c2 : n < M.q.length
      · rw [if_pos (show 0 < (M.q.length : Int) - n by omega), show n - M.q.length = 0 by omega]
        have ne : ¬ M.q.drop n ++ posL (M.c + M.q.length) 0 = [] := fun z => by
          have := congrArg List.length z
          rw [List.length_append, List.length_drop] at this
          have : M.q.length - n + 0 = 0 := this
          omega
        rw [if_neg ne, if_neg (show ¬ M.q.length < n by omega), List.length_append, List.length_drop]
        congr 2
        show (M.q.length : Int) - n = ((M.q.length - n + 0 : Nat) : Int)
        omega
      · rw [if_neg (show ¬ 0 < (M.q.length : Int) - n by omega)]
        by_cases c3 : n = M.q.length
        · rw [if_pos (show (M.q.length : Int) - n = 0 by omega), show n - M.q.length = 0 by omega, List.drop_of_length_le (by omega), if_pos (show ([] : List Int) ++ posL (M.c + M.q.length) 0 = [] from rfl)]
        · rw [if_neg (show ¬ (M.q.length : Int) - n = 0 by omega), List.drop_of_length_le (by omega), List.nil_append]
          have ne : ¬ posL (M.c + M.q.length) (n - M.q.length) = [] := fun z => by
            have := congrArg List.length z
            rw [len_posL] at this
            have : n - M.q.length = 0 := this
            omega
          rw [if_neg ne, if_pos (show M.q.length < n by omega), len_posL]
          congr 2
          omega
    · show flR (rarR S.R S.n n (leavR S.st k n)) = _
      rw [lv, q1]
      unfold rarR
      by_cases c2 : n ≤ M.q.length
      · rw [if_neg (by omega), wfl, show l = n by omega, show n - M.q.length = 0 by omega]
        exact (List.append_nil _).symm
      · rw [if_pos (by omega), hn]
        have a1 := (fl_ad (f := M.c + l) (e := M.c + n - 1) wgd (by omega) (by omega)).1
        rw [a1, wfl, List.drop_of_length_le (by omega), List.drop_of_length_le (by omega), List.nil_append, List.nil_append, show (M.c + (n : Int) - 1 - (M.c + l) + 1).toNat = n - M.q.length by omega, show M.c + (l : Int) = M.c + M.q.length by omega]
    · show Gd (rarR S.R S.n n (leavR S.st k n)) _
      rw [lv, hc]
      unfold rarR
      by_cases c2 : n ≤ M.q.length
      · rw [if_neg (by omega)]
        exact wgd.mono (by omega)
      · rw [if_pos (by omega), hn]
        exact (fl_ad (f := M.c + l) (e := M.c + n - 1) wgd (by omega) (by omega)).2.mono (by omega)
    · show S.n + n = _
      rw [hn, hc]
    · show S.m + leavR S.st k n = _
      rw [lv, hm, pl]
      omega
    · show flB (S.B ++ brR S.R S.n (leavR S.st k n)) = _
      rw [lv, flB_app, fb, fbl, q2]
    · intro x hx
      rcases List.mem_append.mp hx with z | z
      · exact pb x z
      · exact pos_brR _ _ _ x z
    · rw [hc, hg, pl, q1, List.length_append, len_posL, List.length_drop]
      omega
/-! ### items that give up -/
theorem of_flat {b : Int} : ∀ {R : List Rg} {n : Int}, Gd R b → 0 ≤ n → flR (ofR R n) = (flR R).take n.toNat
  | [], n, _, _ => by
    show [] = ([] : List Int).take _
    rw [List.take_nil]
  | p :: t, n, g, h => by
    obtain ⟨r1, r2, r3, r4⟩ := rm_le g.1 h
    have lp : (flP p).length = (p.2 - p.1 + 1).toNat := posL_len _ _
    show flR (ofP p n ++ ofR t (n - rmR p n)) = _
    rw [flR_app, flR_cons, take_app, lp, of_flat g.2.2.2 (by omega)]
    have e1 : flR (ofP p n) = (flP p).take n.toNat := by
      unfold ofP
      by_cases c : 0 < rmR p n
      · rw [if_pos c]
        show flP (p.1, p.1 + rmR p n - 1) ++ [] = _
        rw [List.append_nil]
        unfold flP
        show posL p.1 (p.1 + rmR p n - 1 - p.1 + 1).toNat = _
        rw [show (p.1 + rmR p n - 1 - p.1 + 1).toNat = (rmR p n).toNat by omega]
        by_cases c2 : rmR p n < p.2 - p.1 + 1
        · rw [posL_take _ _ _ (by have := r4 c2; omega), r4 c2]
        · rw [List.take_of_length_le (by rw [posL_len]; omega), show (rmR p n).toNat = (p.2 - p.1 + 1).toNat by omega]
      · rw [if_neg c]
        have n0 : n = 0 := by
          by_cases c2 : rmR p n < p.2 - p.1 + 1
          · have := r4 c2
            omega
          · have := g.1
            omega
        rw [n0]
        rfl
    rw [e1]
    congr 1
    by_cases c2 : rmR p n < p.2 - p.1 + 1
    · have := r4 c2
      rw [show (n - rmR p n).toNat = 0 by omega, show n.toNat - (p.2 - p.1 + 1).toNat = 0 by omega]
    · rw [show (n - rmR p n).toNat = n.toNat - (p.2 - p.1 + 1).toNat by omega]
/-- the first ranges, and what follows them at a distance -/
theorem of_good {b : Int} : ∀ {R : List Rg} {n : Int}, Gd R b → 0 ≤ n → Gd (ofR R n) b ∧ ∀ x, (ofR R n).head? = some x → ∀ y, R.head? = some y → x.1 = y.1
  | [], n, _, _ => ⟨True.intro, fun x h => by cases h⟩
  | p :: t, n, g, h => by
    obtain ⟨r1, r2, r3, r4⟩ := rm_le g.1 h
    obtain ⟨ih1, ih2⟩ := of_good (n := n - rmR p n) g.2.2.2 (by omega)
    show Gd (ofP p n ++ ofR t (n - rmR p n)) b ∧ ∀ x, (ofP p n ++ ofR t (n - rmR p n)).head? = some x → ∀ y, (p :: t).head? = some y → x.1 = y.1
    unfold ofP
    by_cases c : 0 < rmR p n
    · rw [if_pos c]
      have hb := g.2.1
      refine ⟨⟨by show p.1 ≤ p.1 + rmR p n - 1; omega, by show p.1 + rmR p n - 1 < b; omega, fun x hx => ?_, ih1⟩, fun x hx y hy => ?_⟩
      · have hx : (ofR t (n - rmR p n)).head? = some x := hx
        show p.1 + rmR p n - 1 + 1 < x.1
        cases t with
        | nil => cases hx
        | cons y u =>
          have e := ih2 x hx y rfl
          have g2 := g.2.2.1 y rfl
          rw [e]
          omega
      · cases hx
        cases hy
        rfl
    · rw [if_neg c]
      have n0 : n = 0 := by
        by_cases c2 : rmR p n < p.2 - p.1 + 1
        · have := r4 c2
          omega
        · have := g.1
          omega
      have e0 : ofR t (n - rmR p n) = [] := by
        have e : n - rmR p n = 0 := by omega
        rw [e]
        have z : ∀ l : List Rg, (∀ q ∈ l, q.1 ≤ q.2) → ofR l 0 = [] := by
          intro l
          induction l with
          | nil => intro _; rfl
          | cons a u ih =>
            intro k
            have ka := k a (List.mem_cons_self ..)
            have ra : rmR a 0 = 0 := by
              unfold rmR
              rw [if_neg (by omega)]
            show ofP a 0 ++ ofR u (0 - rmR a 0) = []
            unfold ofP
            rw [ra, if_neg (by omega), Int.sub_zero, ih fun q hq => k q (List.mem_cons_of_mem _ hq)]
            rfl
        have all : ∀ l : List Rg, Gd l b → ∀ q ∈ l, q.1 ≤ q.2 := by
          intro l
          induction l with
          | nil => intro _ q hq; cases hq
          | cons a u ih =>
            intro gl q hq
            rcases List.mem_cons.mp hq with y | y
            · rw [y]
              exact gl.1
            · exact ih gl.2.2.2 q y
        exact z t (all t g.2.2.2)
      rw [e0]
      exact ⟨True.intro, fun x hx => by cases hx⟩
/-- two good lists of ranges, one behind the other -/
theorem gd_cat {b : Int} : ∀ {A B : List Rg}, Gd A b → Gd B b → (∀ x y, A.getLast? = some x → B.head? = some y → x.2 + 1 < y.1) → Gd (A ++ B) b
  | [], _, _, h, _ => h
  | [p], B, g, h, k => ⟨g.1, g.2.1, fun x hx => k p x rfl hx, h⟩
  | p :: r :: t, B, g, h, k => ⟨g.1, g.2.1, fun x hx => g.2.2.1 x hx, gd_cat (A := r :: t) g.2.2.2 h fun x y hx hy => k x y (by rw [List.getLast?_cons_cons]; exact hx) hy⟩
theorem fl_last {b : Int} {A : List Rg} (g : Gd A b) {x : Rg} (h : A.getLast? = some x) : (flR A).getLast? = some x.2 := by
  rcases List.eq_nil_or_concat A with e0 | ⟨W0, y, e0⟩
  · rw [e0] at h
    cases h
  · rw [List.concat_eq_append] at e0
    subst e0
    rw [List.getLast?_concat] at h
    have ex : y = x := Option.some.inj h
    rw [← ex]
    have hy := (Gd.snocR g).2
    rw [flR_app]
    show (flR W0 ++ (flP y ++ [])).getLast? = _
    rw [List.append_nil]
    unfold flP
    obtain ⟨j, ej⟩ : ∃ j : Nat, (y.2 - y.1 + 1).toNat = j + 1 := ⟨(y.2 - y.1).toNat, by omega⟩
    rw [ej, posL_app j 1, ← List.append_assoc]
    show (_ ++ [y.1 + (j : Int)]).getLast? = _
    rw [List.getLast?_concat]
    congr 1
    omega
theorem fl_head {b : Int} {A : List Rg} (g : Gd A b) {x : Rg} (h : A.head? = some x) : (flR A).head? = some x.1 := by
  cases A with
  | nil => cases h
  | cons p t =>
    have ex : p = x := Option.some.inj h
    rw [← ex]
    show (flP p ++ flR t).head? = _
    unfold flP
    obtain ⟨j, ej⟩ : ∃ j : Nat, (p.2 - p.1 + 1).toNat = j + 1 := ⟨(p.2 - p.1).toNat, by have := g.1; omega⟩
    rw [ej]
    rfl
/-- the positions of good ranges ascend -/
theorem fl_asc {b : Int} : ∀ {R : List Rg}, Gd R b → (flR R).Pairwise (· < ·)
  | [], _ => List.Pairwise.nil
  | p :: t, g => by
    show (flP p ++ flR t).Pairwise (· < ·)
    refine List.pairwise_append.mpr ⟨?_, fl_asc g.2.2.2, fun x hx y hy => ?_⟩
    · have gen : ∀ (n : Nat) (a : Int), (posL a n).Pairwise (· < ·) := by
        intro n
        induction n with
        | zero => intro a; exact List.Pairwise.nil
        | succ n ih =>
          intro a
          refine List.pairwise_cons.mpr ⟨fun y hy => ?_, ih (a + 1)⟩
          have := posL_ge n (a + 1) y hy
          omega
      exact gen _ _
    · have hx := posL_ge _ _ x hx
      have lo : ∀ {R : List Rg} {lo : Int}, Gd R b → (∀ z, R.head? = some z → lo < z.1) → ∀ y ∈ flR R, lo < y := by
        intro R
        induction R with
        | nil => intro lo _ _ y hy; cases hy
        | cons q u ih =>
          intro lo gq hz y hy
          have hq := hz q rfl
          rcases List.mem_append.mp (show y ∈ flP q ++ flR u from hy) with z | z
          · have := posL_ge _ _ y z
            omega
          · exact ih (lo := lo) gq.2.2.2 (fun x hx => by have := gq.2.2.1 x hx; have := gq.1; omega) y z
      have hp := g.1
      have := lo (lo := p.2 + 1) g.2.2.2 (fun z hz => g.2.2.1 z hz) y hy
      omega
theorem MR.lev {M : Mod} {S : Sta} (h : MR M S) {i n : Nat} (n1 : 1 ≤ n) (l : i + n ≤ M.q.length) : MR (levM M i n) (givS S i n M.k) ∧ numR S.st = M.q.length ∧ S.st = some (M.k, numR S.st) ∧ ∃ x z, M.q[i]? = some x ∧ (wfR S.R i).head? = some z ∧ z.1 = x := by
  obtain ⟨st, fl, gd, hn, hm, fb, pb, tot, ok⟩ := h
  have qne : ¬ M.q = [] := fun z => by
    rw [z] at l
    have : i + n ≤ 0 := l
    omega
  rw [if_neg qne] at st
  have nu : numR S.st = M.q.length := by
    rw [st]
    rfl
  have w1 : flR (wfR S.R i) = M.q.drop i := by
    rw [wf_flat gd (by omega), fl, Int.toNat_natCast]
  have g1 : Gd (wfR S.R i) M.c := wf_good gd (by omega)
  have w2 : flR (wfR (wfR S.R i) n) = M.q.drop (i + n) := by
    rw [wf_flat g1 (by omega), w1, List.drop_drop, Int.toNat_natCast]
  have g2 : Gd (wfR (wfR S.R i) n) M.c := wf_good g1 (by omega)
  have o1 : flR (ofR S.R i) = M.q.take i := by
    rw [of_flat gd (by omega), fl, Int.toNat_natCast]
  have g0 := (of_good (n := (i : Int)) gd (by omega)).1
  obtain ⟨x, ex⟩ : ∃ x, M.q[i]? = some x := ⟨_, List.getElem?_eq_getElem (by omega)⟩
  have asc := fl_asc gd
  rw [fl] at asc
  refine ⟨⟨?_, ?_, ?_, hn, hm, fb, pb, ?_, ok.lev i n⟩, nu, by rw [nu]; exact st, x, ?_⟩
  · show withR M.k (numR S.st - n) = if M.q.take i ++ M.q.drop (i + n) = [] then none else some (M.k, ((M.q.take i ++ M.q.drop (i + n)).length : Int))
    have ll : (M.q.take i ++ M.q.drop (i + n)).length = M.q.length - n := by
      rw [List.length_append, List.length_take, List.length_drop]
      omega
    rw [nu, ll]
    unfold withR
    by_cases c : M.q.length = n
    · rw [if_pos (by omega), if_pos (List.length_eq_zero_iff.mp (by omega))]
    · rw [if_neg (by omega), if_neg (fun z => by have := congrArg List.length z; rw [ll] at this; have : M.q.length - n = 0 := this; omega)]
      congr 2
      omega
  · show flR (ofR S.R i ++ wfR (wfR S.R i) n) = M.q.take i ++ M.q.drop (i + n)
    rw [flR_app, o1, w2]
  · show Gd (ofR S.R i ++ wfR (wfR S.R i) n) M.c
    refine gd_cat g0 g2 fun a b ha hb => ?_
    have la := fl_last g0 ha
    have hb2 := fl_head g2 hb
    rw [o1] at la
    rw [w2] at hb2
    -- at least one position lies between them
    have i0 : 0 < i := by
      by_cases c : i = 0
      · subst c
        cases la
      · omega
    have ea : M.q[i - 1]? = some a.2 := by
      rw [List.getLast?_eq_getElem?, List.length_take, List.getElem?_take] at la
      rw [show min i M.q.length - 1 = i - 1 by omega, if_pos (by omega)] at la
      exact la
    have eb : M.q[i + n]? = some b.1 := by
      rw [List.head?_drop] at hb2
      exact hb2
    obtain ⟨la1, la2⟩ := List.getElem?_eq_some_iff.mp ea
    obtain ⟨lb1, lb2⟩ := List.getElem?_eq_some_iff.mp eb
    obtain ⟨lx1, lx2⟩ := List.getElem?_eq_some_iff.mp ex
    have h1 := List.pairwise_iff_getElem.mp asc (i - 1) i la1 lx1 (by omega)
    have h2 := List.pairwise_iff_getElem.mp asc i (i + n) lx1 lb1 (by omega)
    rw [la2, lx2] at h1
    rw [lx2, lb2] at h2
    omega
  · show M.c = 2 * (M.P.length : Int) + ((M.q.take i ++ M.q.drop (i + n)).length : Int) + (M.g + n)
    rw [List.length_append, List.length_take, List.length_drop]
    omega
  · cases ez : wfR S.R i with
    | nil =>
      rw [ez] at w1
      have : M.q.drop i = [] := w1.symm
      have := congrArg List.length this
      rw [List.length_drop] at this
      have : M.q.length - i = 0 := this
      omega
    | cons z t =>
      refine ⟨z, ex, rfl, ?_⟩
      have hz := fl_head g1 (x := z) (by rw [ez]; rfl)
      rw [w1, List.head?_drop, ex] at hz
      exact (Option.some.inj hz).symm
end UP

set_option Elab.async false
set_option linter.all false
set_option maxRecDepth 100000
set_option maxHeartbeats 4000000
set_option pp.maxSteps 300
namespace UP
open PySem PySem.Spec PyProof.Rows L2
/-! ### all counts multiplied -/
def scS (t : Int) (S : Sta) : Sta := ⟨scO t S.st, scP t S.R, S.n * t, S.m * t, scB t S.B⟩
theorem scP_app (t : Int) (A B : List Rg) : scP t (A ++ B) = scP t A ++ scP t B := List.map_append ..
theorem scB_app (t : Int) (A B : List Blk) : scB t (A ++ B) = scB t A ++ scB t B := List.map_append ..
theorem ad_sc {t : Int} (ht : 0 < t) (R : List Rg) (f l : Int) : adR (scP t R) (f * t) (l * t + t - 1) = scP t (adR R f l) := by
  unfold adR
  have eg : (scP t R).getLast? = R.getLast?.map fun p => (p.1 * t, p.2 * t + t - 1) := by
    unfold scP
    rw [List.getLast?_map]
  rw [eg]
  cases R.getLast? with
  | none =>
    show scP t R ++ [(f * t, l * t + t - 1)] = scP t (R ++ [(f, l)])
    rw [scP_app]
    rfl
  | some z =>
    show (if z.2 * t + t - 1 + 1 = f * t then (scP t R).dropLast ++ [(z.1 * t, l * t + t - 1)] else scP t R ++ [(f * t, l * t + t - 1)]) = scP t (if z.2 + 1 = f then R.dropLast ++ [(z.1, l)] else R ++ [(f, l)])
    have e : (z.2 + 1) * t = z.2 * t + t := by rw [Int.add_mul, Int.one_mul]
    have iff : z.2 * t + t - 1 + 1 = f * t ↔ z.2 + 1 = f := by
      rw [show z.2 * t + t - 1 + 1 = (z.2 + 1) * t by omega]
      exact eq_sc ht
    by_cases g : z.2 + 1 = f
    · rw [if_pos g, if_pos (iff.mpr g), scP_app]
      congr 1
      unfold scP
      rw [List.map_dropLast]
    · rw [if_neg g, if_neg (fun y => g (iff.mp y)), scP_app]
      rfl
theorem rar_sc {t : Int} (ht : 0 < t) (R : List Rg) (b c n : Int) : rarR (scP t R) (b * t) (c * t) (n * t) = scP t (rarR R b c n) := by
  unfold rarR
  rw [wfR_sc ht]
  by_cases g : n < c
  · rw [if_pos g, if_pos ((lt_sc ht).mpr g), ← ad_sc ht, ← Int.add_mul]
    congr 1
    rw [Int.sub_mul, Int.add_mul, Int.one_mul]
    omega
  · rw [if_neg g, if_neg (fun y => g ((lt_sc ht).mp y))]
theorem arr_sc {t : Int} (ht : 0 < t) (S : Sta) (k : Str) (c : Int) : arrS (scS t S) k (c * t) = scS t (arrS S k c) := by
  unfold arrS scS
  dsimp only
  rw [leav_sc ht, step_sc ht, rar_sc ht, brR_sc ht, scB_app, Int.add_mul, Int.add_mul]
theorem ofP_sc {p : Rg} {n t : Int} (ht : 0 < t) : ofP (p.1 * t, p.2 * t + t - 1) (n * t) = scP t (ofP p n) := by
  unfold ofP
  rw [rm_sc ht]
  by_cases g : 0 < rmR p n
  · rw [if_pos g, if_pos ((pos_sc ht).mpr g)]
    show [(p.1 * t, p.1 * t + rmR p n * t - 1)] = [(p.1 * t, (p.1 + rmR p n - 1) * t + t - 1)]
    rw [Int.sub_mul, Int.add_mul, Int.one_mul]
    congr 2
    omega
  · rw [if_neg g, if_neg (fun y => g ((pos_sc ht).mp y))]
    rfl
theorem ofR_sc {t : Int} (ht : 0 < t) : ∀ (R : List Rg) (n : Int), ofR (scP t R) (n * t) = scP t (ofR R n)
  | [], _ => rfl
  | p :: u, n => by
    show ofP (p.1 * t, p.2 * t + t - 1) (n * t) ++ ofR (scP t u) (n * t - rmR (p.1 * t, p.2 * t + t - 1) (n * t)) = scP t (ofP p n ++ ofR u (n - rmR p n))
    rw [ofP_sc ht, rm_sc ht, ← Int.sub_mul, ofR_sc ht u, scP_app]
theorem num_sc (t : Int) (st : Option Run) : numR (scO t st) = numR st * t := by
  cases st with
  | none =>
    show (0 : Int) = 0 * t
    rw [Int.zero_mul]
  | some r => rfl
theorem with_sc {t : Int} (ht : 0 < t) (k : Str) (n : Int) : withR k (n * t) = scO t (withR k n) := by
  unfold withR
  by_cases g : n = 0
  · rw [if_pos g, if_pos (by rw [g, Int.zero_mul])]
    rfl
  · rw [if_neg g, if_neg (fun y => g ((eq_sc (b := 0) ht).mp (by rw [Int.zero_mul]; exact y)))]
    rfl
theorem giv_sc {t : Int} (ht : 0 < t) (S : Sta) (i c : Int) (k : Str) : givS (scS t S) (i * t) (c * t) k = scS t (givS S i c k) := by
  unfold givS scS
  dsimp only
  rw [num_sc, ← Int.sub_mul, with_sc ht, ofR_sc ht, wfR_sc ht, wfR_sc ht, scP_app]
theorem pg_sc {t : Int} (ht : 0 < t) {a r : Int} (r0 : 0 ≤ r) (r1 : r < t) : ∀ (B : List Blk), pgR (scB t B) (a * t + r) = (pgR B a).map fun y => y * t + r
  | [] => rfl
  | x :: u => by
    have le : ∀ z : Int, z * t ≤ a * t + r ↔ z ≤ a := fun z => by
      have e : (a + 1) * t = a * t + t := by rw [Int.add_mul, Int.one_mul]
      have h1 := lt_sc (a := z) (b := a + 1) ht
      have h2 := le_sc (a := z) (b := a) ht
      rw [e] at h1
      constructor
      · intro h
        have := h1.mp (by omega)
        omega
      · intro h
        have := h2.mpr h
        omega
    have lt : ∀ z : Int, a * t + r < z * t ↔ a < z := fun z => by
      have := le z
      constructor
      · intro h
        by_cases c : a < z
        · exact c
        · have := this.mpr (by omega)
          omega
      · intro h
        by_cases c : a * t + r < z * t
        · exact c
        · have := this.mp (by omega)
          omega
    show (if x.1 * t ≤ a * t + r ∧ a * t + r < x.1 * t + x.2.2 * t then some (x.2.1 * t + (a * t + r) - x.1 * t) else if x.2.1 * t ≤ a * t + r ∧ a * t + r < x.2.1 * t + x.2.2 * t then some (x.1 * t + (a * t + r) - x.2.1 * t) else pgR (scB t u) (a * t + r)) = (if x.1 ≤ a ∧ a < x.1 + x.2.2 then some (x.2.1 + a - x.1) else if x.2.1 ≤ a ∧ a < x.2.1 + x.2.2 then some (x.1 + a - x.2.1) else pgR u a).map _
    rw [← Int.add_mul, ← Int.add_mul]
    by_cases c1 : x.1 ≤ a ∧ a < x.1 + x.2.2
    · rw [if_pos c1, if_pos ⟨(le _).mpr c1.1, (lt _).mpr c1.2⟩]
      show some _ = some ((x.2.1 + a - x.1) * t + r)
      rw [Int.sub_mul, Int.add_mul]
      congr 1
      omega
    · rw [if_neg c1, if_neg (fun y => c1 ⟨(le _).mp y.1, (lt _).mp y.2⟩)]
      by_cases c2 : x.2.1 ≤ a ∧ a < x.2.1 + x.2.2
      · rw [if_pos c2, if_pos ⟨(le _).mpr c2.1, (lt _).mpr c2.2⟩]
        show some _ = some ((x.1 + a - x.2.1) * t + r)
        rw [Int.sub_mul, Int.add_mul]
        congr 1
        omega
      · rw [if_neg c2, if_neg (fun y => c2 ⟨(le _).mp y.1, (lt _).mp y.2⟩)]
        exact pg_sc ht r0 r1 u
/-! ### the mates as a dict -/
def mateK (P : List Pr) : List (Key × V) := P.flatMap fun p => [(Sum.inl p.2, V.int p.1), (Sum.inl p.1, V.int p.2)]
theorem mate_len : ∀ P : List Pr, (mateK P).length = 2 * P.length
  | [] => rfl
  | p :: t => by
    show (mateK t).length + 1 + 1 = 2 * (t.length + 1)
    rw [mate_len t]
    omega
theorem mate_app (P Q : List Pr) : mateK (P ++ Q) = mateK P ++ mateK Q := List.flatMap_append ..
theorem mate_none {a : Int} : ∀ {P : List Pr}, (∀ p ∈ P, p.1 ≠ a ∧ p.2 ≠ a) → valV (mateK P) (Sum.inl a) = none
  | [], _ => rfl
  | p :: t, h => by
    obtain ⟨h1, h2⟩ := h p (List.mem_cons_self ..)
    show valV ((Sum.inl p.2, V.int p.1) :: (Sum.inl p.1, V.int p.2) :: mateK t) (Sum.inl a) = none
    rw [valV_neg (fun e => h2 (Sum.inl.inj e)), valV_neg (fun e => h1 (Sum.inl.inj e))]
    exact mate_none fun q hq => h q (List.mem_cons_of_mem _ hq)
theorem mate_val {a b : Int} : ∀ {P : List Pr}, U P → ((a, b) ∈ P ∨ (b, a) ∈ P) → valV (mateK P) (Sum.inl a) = some (.int b)
  | [], _, h => by rcases h with h | h <;> cases h
  | p :: t, u, h => by
    have ut : U t := ⟨fun x hx y hy => u.fst x (List.mem_cons_of_mem _ hx) y (List.mem_cons_of_mem _ hy), fun x hx y hy => u.snd x (List.mem_cons_of_mem _ hx) y (List.mem_cons_of_mem _ hy), fun x hx y hy => u.dis x (List.mem_cons_of_mem _ hx) y (List.mem_cons_of_mem _ hy)⟩
    have m0 : p ∈ p :: t := List.mem_cons_self ..
    show valV ((Sum.inl p.2, V.int p.1) :: (Sum.inl p.1, V.int p.2) :: mateK t) (Sum.inl a) = _
    by_cases c1 : p.2 = a
    · rw [valV_pos (by show Sum.inl p.2 = Sum.inl a; rw [c1])]
      show some (V.int p.1) = some (V.int b)
      rcases h with h | h
      · exact absurd c1.symm (u.dis _ h _ m0)
      · have e := u.snd _ h _ m0 c1.symm
        rw [← e]
    · rw [valV_neg (fun e => c1 (Sum.inl.inj e))]
      by_cases c2 : p.1 = a
      · rw [valV_pos (by show Sum.inl p.1 = Sum.inl a; rw [c2])]
        show some (V.int p.2) = some (V.int b)
        rcases h with h | h
        · have e := u.fst _ h _ m0 c2.symm
          rw [← e]
        · exact absurd c2 (u.dis _ m0 _ h)
      · rw [valV_neg (fun e => c2 (Sum.inl.inj e))]
        refine mate_val ut ?_
        rcases h with h | h
        · rcases List.mem_cons.mp h with e | e
          · exact absurd (by rw [← e]) c2
          · exact .inl e
        · rcases List.mem_cons.mp h with e | e
          · exact absurd (by rw [← e]) c1
          · exact .inr e
/-- the partner by the blocks is the mate of the dict -/
theorem MR.mate {M : Mod} {S : Sta} (h : MR M S) (a : Int) : valV (mateK M.P) (Sum.inl a) = (pgR S.B a).map V.int := by
  have u := h.ok.u
  by_cases c : ∃ b, (a, b) ∈ M.P ∨ (b, a) ∈ M.P
  · obtain ⟨b, hb⟩ := c
    rw [mate_val u hb]
    have u' := u
    rw [← h.fb] at u'
    rcases hb with z | z
    · rw [← h.fb] at z
      rw [pg_first S.B (a, b) h.pb u' z]
      rfl
    · rw [← h.fb] at z
      rw [pg_second S.B (b, a) h.pb u' z]
      rfl
  · have no : ∀ p ∈ M.P, p.1 ≠ a ∧ p.2 ≠ a := fun p hp => ⟨fun e => c ⟨p.2, .inl (by rw [← e]; exact hp)⟩, fun e => c ⟨p.1, .inr (by rw [← e]; exact hp)⟩⟩
    rw [mate_none no, pg_none S.B a h.pb (by rw [h.fb]; exact no)]
    rfl
/-- ranges of the waiting items -/
theorem MR.rg {M : Mod} {S : Sta} (h : MR M S) : S.R = rgR 1 M.q := by
  have := rg_flat S.R [] h.gd (fun l p hl => by cases hl)
  rw [h.fl] at this
  exact this.symm
end UP

set_option Elab.async false
set_option linter.all false
set_option maxRecDepth 100000
set_option maxHeartbeats 4000000
set_option pp.maxSteps 300
namespace UP
open PySem PySem.Spec PyProof.Rows L2
theorem dp_intB {K : PySem.W.Frag} {H : Hp} : ∀ (l : List Int), DpAll K H (l.map V.int) (l.map PyData.int)
  | [] => .nil
  | x :: t => .cons (.int x) (dp_intB t)
theorem can_intB : ∀ (l : List Int), PyData.canLayAll0 (l.map PyData.int) = true
  | [] => by simp [PyData.canLayAll0]
  | x :: t => by
    rw [List.map_cons, PyData.canLayAll0, can_intB t]
    simp [PyData.canLay0]
theorem depth_intB : ∀ (l : List Int), PyData.depthAll (l.map PyData.int) ≤ 1
  | [] => by simp [PyData.depthAll]
  | x :: t => by
    rw [List.map_cons, PyData.depthAll]
    exact Nat.max_le.mpr ⟨by simp [PyData.depth], depth_intB t⟩
theorem shaped_intB (l : List Int) : SeqAt.shaped (.list (l.map PyData.int)) = true := by
  unfold SeqAt.shaped
  rw [PyData.canLay0, can_intB l, PyData.depth]
  have := depth_intB l
  exact decide_eq_true (by omega)
theorem eqv_nilB2 (l : List Int) : PyData.eqv (.list (l.map PyData.int)) (.list []) = l.isEmpty := by
  cases l with
  | nil => simp [PyData.eqv, PyData.eqvAll]
  | cons x t => simp [PyData.eqv, PyData.eqvAll]
/-! ### the model of a station: a dict -/
def md (k : Str) (q mt : Addr) (c g : Int) : List (Key × V) := [(Sum.inr "kind", V.str k), (Sum.inr "queue", V.ref q), (Sum.inr "mates", V.ref mt), (Sum.inr "count", V.int c), (Sum.inr "gone", V.int g)]
theorem md_get {H : Hp} {m : Addr} {kvs : List (Key × V)} {f : Str} {v : V} (h : H m = some (.dK kvs)) (e : valV kvs (Sum.inr f) = some v) : DGet H m (.str f) (some v) := by
  have := DGet.k (k := Sum.inr f) h
  rw [e] at this
  exact this
theorem md_put {H : Hp} {m : Addr} {kvs kvs' : List (Key × V)} {f : Str} {v : V} (h : H m = some (.dK kvs)) (e : putK kvs (Sum.inr f) v = kvs') (l : kvs.length < 100) : DPut H m (.str f) v (upd H m (.dK kvs')) := by
  have := DPut.k (k := Sum.inr f) (v := v) h (small (by omega))
  rw [e] at this
  exact this
theorem s_kind_queue : ¬ ("kind" : Str) = "queue" := by decide +kernel
theorem s_kind_mates : ¬ ("kind" : Str) = "mates" := by decide +kernel
theorem s_kind_count : ¬ ("kind" : Str) = "count" := by decide +kernel
theorem s_kind_gone : ¬ ("kind" : Str) = "gone" := by decide +kernel
theorem s_queue_kind : ¬ ("queue" : Str) = "kind" := by decide +kernel
theorem s_queue_mates : ¬ ("queue" : Str) = "mates" := by decide +kernel
theorem s_queue_count : ¬ ("queue" : Str) = "count" := by decide +kernel
theorem s_queue_gone : ¬ ("queue" : Str) = "gone" := by decide +kernel
theorem s_mates_kind : ¬ ("mates" : Str) = "kind" := by decide +kernel
theorem s_mates_queue : ¬ ("mates" : Str) = "queue" := by decide +kernel
theorem s_mates_count : ¬ ("mates" : Str) = "count" := by decide +kernel
theorem s_mates_gone : ¬ ("mates" : Str) = "gone" := by decide +kernel
theorem s_count_kind : ¬ ("count" : Str) = "kind" := by decide +kernel
theorem s_count_queue : ¬ ("count" : Str) = "queue" := by decide +kernel
theorem s_count_mates : ¬ ("count" : Str) = "mates" := by decide +kernel
theorem s_count_gone : ¬ ("count" : Str) = "gone" := by decide +kernel
theorem s_gone_kind : ¬ ("gone" : Str) = "kind" := by decide +kernel
theorem s_gone_queue : ¬ ("gone" : Str) = "queue" := by decide +kernel
theorem s_gone_mates : ¬ ("gone" : Str) = "mates" := by decide +kernel
theorem s_gone_count : ¬ ("gone" : Str) = "count" := by decide +kernel
theorem kne {a b : Str} (h : ¬ a = b) : ¬ (Sum.inr a : Key) = Sum.inr b := fun e => h (Sum.inr.inj e)
section
variable (k k' : Str) (q q' mt : Addr) (c c' g g' : Int)
theorem md_len : (md k q mt c g).length < 100 := by
  show 5 < 100
  decide
theorem md_kind : valV (md k q mt c g) (Sum.inr "kind") = some (.str k) := valV_pos rfl
theorem md_queue : valV (md k q mt c g) (Sum.inr "queue") = some (.ref q) := by
  unfold md
  rw [valV_neg (kne s_kind_queue), valV_pos rfl]
theorem md_mates : valV (md k q mt c g) (Sum.inr "mates") = some (.ref mt) := by
  unfold md
  rw [valV_neg (kne s_kind_mates), valV_neg (kne s_queue_mates), valV_pos rfl]
theorem md_count : valV (md k q mt c g) (Sum.inr "count") = some (.int c) := by
  unfold md
  rw [valV_neg (kne s_kind_count), valV_neg (kne s_queue_count), valV_neg (kne s_mates_count), valV_pos rfl]
theorem md_gone : valV (md k q mt c g) (Sum.inr "gone") = some (.int g) := by
  unfold md
  rw [valV_neg (kne s_kind_gone), valV_neg (kne s_queue_gone), valV_neg (kne s_mates_gone), valV_neg (kne s_count_gone), valV_pos rfl]
theorem putK_in {kvs : List (Key × V)} {x : Key} {v u : V} (h : valV kvs x = some u) : putK kvs x v = kvs.map fun kv => if kv.1 = x then (kv.1, v) else kv := by
  unfold putK
  rw [valV_any, h]
  exact if_pos rfl
theorem mdp_kind : putK (md k q mt c g) (Sum.inr "kind") (.str k') = md k' q mt c g := by
  rw [putK_in (md_kind k q mt c g)]
  unfold md
  simp only [List.map_cons, List.map_nil, Sum.inr.injEq, s_queue_kind, s_mates_kind, s_count_kind, s_gone_kind, reduceIte]
theorem mdp_queue : putK (md k q mt c g) (Sum.inr "queue") (.ref q') = md k q' mt c g := by
  rw [putK_in (md_queue k q mt c g)]
  unfold md
  simp only [List.map_cons, List.map_nil, Sum.inr.injEq, s_kind_queue, s_mates_queue, s_count_queue, s_gone_queue, reduceIte]
theorem mdp_count : putK (md k q mt c g) (Sum.inr "count") (.int c') = md k q mt c' g := by
  rw [putK_in (md_count k q mt c g)]
  unfold md
  simp only [List.map_cons, List.map_nil, Sum.inr.injEq, s_kind_count, s_queue_count, s_mates_count, s_gone_count, reduceIte]
theorem mdp_gone : putK (md k q mt c g) (Sum.inr "gone") (.int g') = md k q mt c g' := by
  rw [putK_in (md_gone k q mt c g)]
  unfold md
  simp only [List.map_cons, List.map_nil, Sum.inr.injEq, s_kind_gone, s_queue_gone, s_mates_gone, s_count_gone, reduceIte]
theorem md_new : mergeK [] (md k q mt c g) = md k q mt c g := by
  unfold mergeK md
  simp only [List.foldl_cons, List.foldl_nil]
  rw [putK_new (kvs := []) (k := (Sum.inr "kind" : Key)) _ rfl]
  rw [putK_new (k := (Sum.inr "queue" : Key)) _ (by simp only [List.nil_append, List.cons_append]; rw [valV_neg (kne s_kind_queue)]; rfl)]
  rw [putK_new (k := (Sum.inr "mates" : Key)) _ (by simp only [List.nil_append, List.cons_append]; rw [valV_neg (kne s_kind_mates), valV_neg (kne s_queue_mates)]; rfl)]
  rw [putK_new (k := (Sum.inr "count" : Key)) _ (by simp only [List.nil_append, List.cons_append]; rw [valV_neg (kne s_kind_count), valV_neg (kne s_queue_count), valV_neg (kne s_mates_count)]; rfl)]
  rw [putK_new (k := (Sum.inr "gone" : Key)) _ (by simp only [List.nil_append, List.cons_append]; rw [valV_neg (kne s_kind_gone), valV_neg (kne s_queue_gone), valV_neg (kne s_mates_gone), valV_neg (kne s_count_gone)]; rfl)]
  rfl
end
structure ModAt (H : Hp) (m q mt : Addr) (M : Mod) : Prop where
  d : H m = some (.dK (md M.k q mt M.c M.g))
  q : H q = some (.lst (M.q.map V.int))
  t : H mt = some (.dK (mateK M.P))
theorem ModAt.same {H H' : Hp} {m q mt : Addr} {M : Mod} (z : ModAt H m q mt M) (s : Same H H') : ModAt H' m q mt M := ⟨s _ _ z.d, s _ _ z.q, s _ _ z.t⟩
theorem md_ne {k : Str} {q mt : Addr} {c g : Int} {P : List Pr} : HO.dK (md k q mt c g) ≠ .dK (mateK P) := by
  intro e
  have e := HO.dK.inj e
  cases P with
  | nil => cases e
  | cons p t =>
    have := congrArg (fun l => (l.head?).map Prod.fst) e
    cases this
theorem ModAt.mq {H : Hp} {m q mt : Addr} {M : Mod} (z : ModAt H m q mt M) : m ≠ q := ne_of z.d z.q (by intro e; cases e)
theorem ModAt.mt {H : Hp} {m q mt : Addr} {M : Mod} (z : ModAt H m q mt M) : m ≠ mt := ne_of z.d z.t md_ne
theorem ModAt.qt {H : Hp} {m q mt : Addr} {M : Mod} (z : ModAt H m q mt M) : q ≠ mt := ne_of z.q z.t (by intro e; cases e)
/-- all but the model is kept -/
def Mk3 (m q mt : Addr) (H H' : Hp) : Prop := ∀ b o, b ≠ m → b ≠ q → b ≠ mt → H b = some o → H' b = some o
theorem Mk3.refl {m q mt : Addr} {H : Hp} : Mk3 m q mt H H := fun _ _ _ _ _ e => e
theorem Mk3.trans {m q mt : Addr} {H H1 H2 : Hp} (a : Mk3 m q mt H H1) (b : Mk3 m q mt H1 H2) : Mk3 m q mt H H2 := fun c o x y z e => b _ _ x y z (a _ _ x y z e)
theorem Mk3.of {m q mt : Addr} {H H' : Hp} (s : Same H H') : Mk3 m q mt H H' := fun _ _ _ _ _ e => s _ _ e
theorem Mk3.b1 {m q mt : Addr} {H H' : Hp} (s : But m H H') : Mk3 m q mt H H' := fun _ _ x _ _ e => s _ _ x e
theorem Mk3.b2 {m q mt : Addr} {H H' : Hp} (s : But q H H') : Mk3 m q mt H H' := fun _ _ _ x _ e => s _ _ x e
theorem Mk3.b3 {m q mt : Addr} {H H' : Hp} (s : But mt H H') : Mk3 m q mt H H' := fun _ _ _ _ x e => s _ _ x e
section
variable {P : Program} {w : World} {K : PySem.W.Frag} {mg : Str → Option Value} {base : Heap}
/-! _law_new: slots  -/
abbrev s_law_new : Stmt := topS 48
theorem sc_law_new : FnScope [] [] (defScope s_law_new) := ⟨rfl, rfl, rfl, by decide +kernel, rfl, by decide +kernel, by decide +kernel⟩
def sp_law_new : Sp := fun vs H Q _ => vs = [] ∧ ∀ H' m q mt, Same H H' → H m = none → H q = none → H mt = none → ModAt H' m q mt ⟨"", [], [], 0, 0⟩ → Q (.ref m) H'
theorem ok_law_new (D : Df K mg "_law_new" s_law_new) : Has P w K mg base 1 "_law_new" [] sp_law_new := by
  refine has_of D sc_law_new (fun _ _ _ _ _ _ us hl => match us, hl with | [], _ => rfl) (fun vs H Q E h => ?_) (fun f cdv A outer s₀ H vs Q E hr h => ?_)
  · obtain ⟨rfl, _⟩ := h
    rfl
  · obtain ⟨rfl, q⟩ := h
    refine ⟨_, (pss_one (ps_ret (pe_disp (pps_cons pe_str pe_str (pps_cons pe_str (pe_lst pa_nil) (pps_cons pe_str pe_dnewK (pps_cons pe_str pe_int (pps_cons pe_str pe_int pps_nil))))) (by rfl) (by rfl) (fun z => by cases z) (by decide)))), ?_⟩
    refine fun m nm => ⟨Nat.zero_le _, fun l nl d nd => ⟨?_, md "" l d 0 0, rfl, (by show 5 ≤ 15; decide), ?_⟩⟩
    · exact (same_upd nd) _ _ ((same_upd nl) _ _ upd_same)
    · rw [md_new]
      have s1 := same_upd (o := .dK []) nm
      have s2 := s1.trans (same_upd (o := .lst []) nl)
      have s3 := s2.trans (same_upd (o := .dK []) nd)
      have hl : (upd (upd (upd H m (.dK [])) l (.lst [])) d (.dK [])) l = some (.lst []) := same_upd nd _ _ upd_same
      have hd : (upd (upd (upd H m (.dK [])) l (.lst [])) d (.dK [])) d = some (.dK []) := upd_same
      have lm : l ≠ m := (ne_of_none upd_same nl).symm
      have dm : d ≠ m := (ne_of_none ((same_upd nl) _ _ upd_same) nd).symm
      refine q _ m l d (fun b o e => ?_) nm (s1.free nl) (s2.free nd) ⟨upd_same, ?_, ?_⟩
      · rw [upd_ne (ne_of_none e nm)]
        exact s3 _ _ e
      · rw [upd_ne lm]
        exact hl
      · rw [upd_ne dm]
        exact hd
end
end UP

set_option Elab.async false
set_option linter.all false
set_option maxRecDepth 100000
set_option maxHeartbeats 4000000
set_option pp.maxSteps 300
namespace UP
open PySem PySem.Spec PyProof.Rows L2
theorem arr_qlen (M : Mod) (k : Str) : ∀ n : Nat, (arrM M k n).q.length ≤ M.q.length + n ∧ (arrM M k n).P.length ≤ M.P.length + n
  | 0 => ⟨Nat.le_refl _, Nat.le_refl _⟩
  | n + 1 => by
    have := arr_qlen M k n
    show (oneM (arrM M k n) k).q.length ≤ _ ∧ (oneM (arrM M k n) k).P.length ≤ _
    unfold oneM
    split
    · show ((arrM M k n).q ++ [(arrM M k n).c]).length ≤ _ ∧ (arrM M k n).P.length ≤ _
      rw [List.length_append]
      show (arrM M k n).q.length + 1 ≤ _ ∧ _
      omega
    · show ((arrM M k n).q.drop 1).length ≤ _ ∧ ((arrM M k n).P ++ _).length ≤ _
      rw [List.length_drop, List.length_append, zpL_len, List.length_take]
      omega
theorem ixq0 (n : Nat) : seqIndex? 0 (n + 1) = some 0 := by
  unfold seqIndex?
  simp
section
variable {P : Program} {w : World} {K : PySem.W.Frag} {mg : Str → Option Value} {base : Heap}
/-! _law_arrive: slots 0:model 1:kind 2:size 3:pairs 4:step 5:at 6:mate -/
abbrev s_law_arrive : Stmt := topS 49
theorem sc_law_arrive : FnScope ["model", "kind", "size", "pairs", "step", "at", "mate"] ["model", "kind", "size"] (defScope s_law_arrive) := ⟨rfl, rfl, rfl, by decide +kernel, rfl, by decide +kernel, by decide +kernel⟩
def sp_law_arrive : Sp := fun vs H Q _ => ∃ (m q mt : Addr) (M : Mod) (k : Str) (n : Nat), vs = [.ref m, .str k, .int n] ∧ ModAt H m q mt M ∧ MOk M ∧ n ≤ 1000 ∧ M.q.length ≤ 10000 ∧ M.P.length ≤ 10000 ∧ ∀ H', Mk3 m q mt H H' → ModAt H' m q mt (arrM M k n) → Q (.int (((arrM M k n).P.length : Int) - M.P.length)) H'
theorem ok_law_arrive (D : Df K mg "_law_arrive" s_law_arrive) (T : Tx mg) : Has P w K mg base 1 "_law_arrive" ["model", "kind", "size"] sp_law_arrive := by
  refine has_of D sc_law_arrive (fun _ _ _ _ _ _ us hl => match us, hl with | [_, _, _], _ => rfl) (fun vs H Q E h => ?_) (fun f cdv A outer s₀ H vs Q E hr h => ?_)
  · obtain ⟨_, _, _, _, _, _, rfl, _⟩ := h
    rfl
  · obtain ⟨m, q, mt, M, k, n, rfl, z, ok, n1, lq, lp, qq⟩ := h
    refine ⟨_, (pss_cons (ps_set (i := 3) sc_law_arrive.nd rfl (by first | exact Or.inl rfl | exact Or.inr rfl) pe_int)
    (pss_cons (ps_for PassesOwn.never rfl (pi_range1 (by rfl) T.n_range (pa_cons (pv 2) pa_nil)) (pg_name (i := 4) sc_law_arrive.nd rfl (by first | exact Or.inl rfl | exact Or.inr rfl))
      (pss_cons (ps_set (i := 5) sc_law_arrive.nd rfl (by first | exact Or.inl rfl | exact Or.inr rfl) (pe_dget (hu_of hr) (pv 0) pe_str (fun _ _ => rfl)))
    (pss_cons (ps_dput (hu_of hr) (pv 0) pe_str (pe_op op_add (pv 5) pe_int) rfl)
    (pss_one (ps_if (PW.pt (pw_or (pt_cmpR (op_eqD hr.units) (pe_dget (hu_of hr) (pv 0) pe_str (fun _ _ => rfl)) (pe_lst pa_nil) (nomark _)) (pw_or1 (pt_cmpR op_eq (pe_dget (hu_of hr) (pv 0) pe_str (fun _ _ => rfl)) (pv 1) (nomark _))))) (pss_cons (ps_dput (hu_of hr) (pv 0) pe_str (pv 1) rfl)
    (pss_one (ps_expr (pe_bm PySem.F.plainAttrs_list PySem.F.slot_list_append PySem.F.type_list_append mt_append (pe_dget (hu_of hr) (pv 0) pe_str (fun _ _ => rfl)) (pa_cons (pv 5) pa_nil))))) (pss_cons (ps_set (i := 6) sc_law_arrive.nd rfl (by first | exact Or.inl rfl | exact Or.inr rfl) (pe_bm PySem.F.plainAttrs_list PySem.F.slot_list_pop PySem.F.type_list_pop mt_popAt (pe_dget (hu_of hr) (pv 0) pe_str (fun _ _ => rfl)) (pa_cons pe_int pa_nil)))
    (pss_cons (ps_asg (pe_tup (pa_cons (pv 6) (pa_cons (pv 5) pa_nil))) (pg_tup rfl (pgs_cons (pg_sub (pe_dget (hu_of hr) (pv 0) pe_str (fun _ _ => rfl)) (pv 5) (set_dict (hu_of hr))) (pgs_cons (pg_sub (pe_dget (hu_of hr) (pv 0) pe_str (fun _ _ => rfl)) (pv 6) (set_dict (hu_of hr))) pgs_nil))))
    (pss_one (ps_set (i := 3) sc_law_arrive.nd rfl (by first | exact Or.inl rfl | exact Or.inr rfl) (pe_op op_add (pv 3) pe_int))))))))))
    (pss_one (ps_ret (pv 3))))), ?_⟩
    refine ⟨_, rfl, (n : Int), rfl, by omega, by omega, for_range (lo := 0) (n := (n : Int).toNat) (fun i σ H' => ∃ y4 y5 y6 c, σ = [some (.ref m), some (.str k), some (.int n), some (.int c), y4, y5, y6] ∧ Mk3 m q mt H H' ∧ ModAt H' m q mt (arrM M k i) ∧ c = ((arrM M k i).P.length : Int) - M.P.length)
      ⟨_, _, _, 0, rfl, Mk3.refl, z, by show 0 = (M.P.length : Int) - M.P.length; omega⟩ (fun i σ H1 hi hP => ?_) (fun σ H1 hP => ?_)⟩
    · obtain ⟨y4, y5, y6, c, rfl, fr, zi, ec⟩ := hP
      have hi : i < (n : Int).toNat := hi
      have oki := ok.arr k i
      obtain ⟨lqi, lpi⟩ := arr_qlen M k i
      have eS : arrM M k (i + 1) = oneM (arrM M k i) k := rfl
      generalize hN : arrM M k i = N at *
      refine ⟨_, rfl, m, _, rfl, md_get zi.d (md_count ..), ?_⟩
      refine ⟨_, rfl, _, _, rfl, rfl, _, rfl, m, _, rfl, md_put zi.d (mdp_count ..) (md_len ..), ?_⟩
      have ba : But m H1 (upd H1 m (.dK (md N.k q mt (N.c + 1) N.g))) := but_upd
      have da : (upd H1 m (.dK (md N.k q mt (N.c + 1) N.g))) m = some (.dK (md N.k q mt (N.c + 1) N.g)) := upd_same
      generalize upd H1 m (.dK (md N.k q mt (N.c + 1) N.g)) = Ha at *
      have qa := ba _ _ zi.mq.symm zi.q
      have ta := ba _ _ zi.mt.symm zi.t
      have fra : Mk3 m q mt H1 Ha := Mk3.b1 ba
      refine ⟨_, rfl, m, _, rfl, md_get da (md_queue ..), Nat.zero_le _, fun e ne => ?_⟩
      have se := same_upd (o := .lst []) ne
      refine ⟨.list (N.q.map PyData.int), .list [], .lst (.of (se _ _ qa)) (dp_intB _), .lst (.of upd_same) .nil, shaped_intB _, shaped_nil, _, rfl, ?_⟩
      rw [eqv_nilB2]
      replace da := se _ _ da
      replace qa := se _ _ qa
      replace ta := se _ _ ta
      replace fra := fra.trans (Mk3.of se)
      generalize upd Ha e (.lst []) = Ha at *
      by_cases c1 : N.q = []
      · refine iteP (by rw [c1]; rfl) ?_
        have e1 : oneM N k = ⟨k, N.q ++ [N.c], N.P, N.c + 1, N.g⟩ := if_pos (.inl c1)
        rw [← eS] at e1
        have b2 : But m Ha (upd Ha m (.dK (md k q mt (N.c + 1) N.g))) := but_upd
        refine ⟨_, rfl, _, rfl, m, _, rfl, md_put da (mdp_kind ..) (md_len ..), ?_⟩
        have d2 : (upd Ha m (.dK (md k q mt (N.c + 1) N.g))) m = some (.dK (md k q mt (N.c + 1) N.g)) := upd_same
        generalize upd Ha m (.dK (md k q mt (N.c + 1) N.g)) = Hb at *
        have q2 := b2 _ _ zi.mq.symm qa
        refine ⟨_, rfl, m, _, rfl, md_get d2 (md_queue ..), .inl ⟨rfl, _, SqL.of q2⟩, _, rfl, q, _, _, rfl, rfl, q2, small (by rw [List.length_map]; omega), ?_⟩
        have b3 : But q Hb (upd Hb q (.lst (N.q.map V.int ++ [.int N.c]))) := but_upd
        refine ⟨_, _, _, c, rfl, Mk3.trans fr (fra.trans ((Mk3.b1 b2).trans (Mk3.b2 b3))), ?_, by rw [e1]; exact ec⟩
        · rw [e1]
          refine ⟨b3 _ _ zi.mq d2, ?_, b3 _ _ zi.qt.symm (b2 _ _ zi.mt.symm ta)⟩
          show upd Hb q _ q = _
          rw [upd_same, List.map_append]
          rfl
      · refine iteN (by cases e : N.q with | nil => exact absurd e c1 | cons x t => rfl) ?_
        refine ⟨_, rfl, m, _, rfl, md_get da (md_kind ..), _, rfl, rfl, _, rfl, ?_⟩
        by_cases c2 : N.k = k
        · refine iteP (decide_eq_true (by rw [c2])) ?_
          have e1 : oneM N k = ⟨k, N.q ++ [N.c], N.P, N.c + 1, N.g⟩ := if_pos (.inr c2)
          rw [← eS] at e1
          have b2 : But m Ha (upd Ha m (.dK (md k q mt (N.c + 1) N.g))) := but_upd
          refine ⟨_, rfl, _, rfl, m, _, rfl, md_put da (mdp_kind ..) (md_len ..), ?_⟩
          have d2 : (upd Ha m (.dK (md k q mt (N.c + 1) N.g))) m = some (.dK (md k q mt (N.c + 1) N.g)) := upd_same
          generalize upd Ha m (.dK (md k q mt (N.c + 1) N.g)) = Hb at *
          have q2 := b2 _ _ zi.mq.symm qa
          refine ⟨_, rfl, m, _, rfl, md_get d2 (md_queue ..), .inl ⟨rfl, _, SqL.of q2⟩, _, rfl, q, _, _, rfl, rfl, q2, small (by rw [List.length_map]; omega), ?_⟩
          have b3 : But q Hb (upd Hb q (.lst (N.q.map V.int ++ [.int N.c]))) := but_upd
          refine ⟨_, _, _, c, rfl, Mk3.trans fr (fra.trans ((Mk3.b1 b2).trans (Mk3.b2 b3))), ?_, by rw [e1]; exact ec⟩
          · rw [e1]
            refine ⟨b3 _ _ zi.mq d2, ?_, b3 _ _ zi.qt.symm (b2 _ _ zi.mt.symm ta)⟩
            show upd Hb q _ q = _
            rw [upd_same, List.map_append]
            rfl
        · refine iteN (decide_eq_false (fun z => c2 (V.str.inj z))) ?_
          have e1 : oneM N k = ⟨N.k, N.q.drop 1, N.P ++ zpL (N.q.take 1) N.c, N.c + 1, N.g⟩ := if_neg (by rintro (z | z); exact c1 z; exact c2 z)
          rw [← eS] at e1
          obtain ⟨x, t, eq⟩ : ∃ x t, N.q = x :: t := by
            cases e : N.q with
            | nil => exact absurd e c1
            | cons x t => exact ⟨x, t, rfl⟩
          rw [eq] at qa e1
          have okx := oki.qp x (by rw [eq]; exact List.mem_cons_self ..)
          have okb := oki.pb
          have xb := oki.qb x (by rw [eq]; exact List.mem_cons_self ..)
          refine ⟨_, rfl, m, _, rfl, md_get da (md_queue ..), .inl ⟨rfl, _, SqL.of qa⟩, q, _, 0, 0, .int x, rfl, rfl, qa, by decide, by decide, ?_, rfl, ?_⟩
          · exact ixq0 _
          have bb : But q Ha (upd Ha q (.lst (t.map V.int))) := but_upd
          have qb : (upd Ha q (.lst (t.map V.int))) q = some (.lst (t.map V.int)) := upd_same
          show tSeq _ _ _ _ (upd Ha q (.lst (t.map V.int)))
          generalize upd Ha q (.lst (t.map V.int)) = Hb at *
          have db := bb _ _ zi.mq da
          have tb := bb _ _ zi.qt.symm ta
          refine ⟨_, rfl, _, rfl, (by show 2 ≤ sizeLine; decide), fun tp ntp => ?_⟩
          have sp := same_upd (o := .tup [.int x, .int N.c]) ntp
          have k1 : valV (mateK N.P) (Sum.inl N.c) = none := mate_none fun p hp => by
            have := okb p hp
            omega
          have k2 : valV (mateK N.P ++ [(Sum.inl N.c, V.int x)]) (Sum.inl x) = none := by
            rw [valV_snoc _ _ _ _ k1, if_neg (fun z => by have := Sum.inl.inj z; omega)]
            exact mate_none okx
          have lm := mate_len N.P
          refine ⟨tp, _, rfl, .of upd_same, rfl, _, _, rfl, _, rfl, m, _, rfl, md_get (sp _ _ db) (md_mates ..), _, rfl, mt, _, rfl, DPut.k (k := Sum.inl N.c) (sp _ _ tb) (small (by omega)), ?_⟩
          rw [putK_new _ k1]
          have bc : But mt (upd Hb tp (.tup [.int x, .int N.c])) (upd (upd Hb tp (.tup [.int x, .int N.c])) mt (.dK (mateK N.P ++ [(Sum.inl N.c, V.int x)]))) := but_upd
          have tc : (upd (upd Hb tp (.tup [.int x, .int N.c])) mt (.dK (mateK N.P ++ [(Sum.inl N.c, V.int x)]))) mt = some (.dK (mateK N.P ++ [(Sum.inl N.c, V.int x)])) := upd_same
          have dc := bc _ _ zi.mt (sp _ _ db)
          have qc := bc _ _ zi.qt (sp _ _ qb)
          have frc : Mk3 m q mt Hb (upd (upd Hb tp (.tup [.int x, .int N.c])) mt (.dK (mateK N.P ++ [(Sum.inl N.c, V.int x)]))) := (Mk3.of sp).trans (Mk3.b3 bc)
          generalize upd (upd Hb tp (.tup [.int x, .int N.c])) mt (.dK (mateK N.P ++ [(Sum.inl N.c, V.int x)])) = Hc at *
          refine ⟨_, _, rfl, _, rfl, m, _, rfl, md_get dc (md_mates ..), _, rfl, mt, _, rfl, DPut.k (k := Sum.inl x) tc (small (by rw [List.length_append]; show (mateK N.P).length + 1 ≤ _; omega)), rfl, ?_⟩
          rw [putK_new _ k2]
          have be : But mt Hc (upd Hc mt (.dK (mateK N.P ++ [(Sum.inl N.c, V.int x)] ++ [(Sum.inl x, V.int N.c)]))) := but_upd
          refine ⟨_, rfl, _, _, rfl, rfl, _, _, _, c + 1, rfl, Mk3.trans fr (fra.trans ((Mk3.b2 bb).trans (frc.trans (Mk3.b3 be)))), ?_, ?_⟩
          · rw [e1]
            refine ⟨be _ _ zi.mt dc, be _ _ zi.qt qc, ?_⟩
            show upd Hc mt _ mt = some (HO.dK (mateK (N.P ++ [(x, N.c)])))
            rw [upd_same, mate_app, List.append_assoc]
            rfl
          · rw [e1]
            show c + 1 = ((N.P ++ [(x, N.c)]).length : Int) - M.P.length
            rw [List.length_append, ec]
            show _ = ((N.P.length + 1 : Nat) : Int) - M.P.length
            omega
    · obtain ⟨y4, y5, y6, c, rfl, fr, zi, ec⟩ := hP
      rw [Int.toNat_natCast] at zi ec
      subst ec
      exact ⟨_, rfl, qq _ fr zi⟩
/-! _law_leave: slots 0:model 1:index 2:size 3:found -/
abbrev s_law_leave : Stmt := topS 50
theorem sc_law_leave : FnScope ["model", "index", "size", "found"] ["model", "index", "size"] (defScope s_law_leave) := ⟨rfl, rfl, rfl, by decide +kernel, rfl, by decide +kernel, by decide +kernel⟩
def sp_law_leave : Sp := fun vs H Q _ => ∃ (m q mt : Addr) (M : Mod) (i n : Nat) (x : Int), vs = [.ref m, .int i, .int n] ∧ ModAt H m q mt M ∧ M.q[i]? = some x ∧ i + n ≤ M.q.length ∧ M.q.length ≤ 10000 ∧ ∀ H' q', But m H H' → H q' = none → ModAt H' m q' mt (levM M i n) → Q (.int x) H'
theorem ok_law_leave (D : Df K mg "_law_leave" s_law_leave) (T : Tx mg) : Has P w K mg base 1 "_law_leave" ["model", "index", "size"] sp_law_leave := by
  refine has_of D sc_law_leave (fun _ _ _ _ _ _ us hl => match us, hl with | [_, _, _], _ => rfl) (fun vs H Q E h => ?_) (fun f cdv A outer s₀ H vs Q E hr h => ?_)
  · obtain ⟨_, _, _, _, _, _, _, rfl, _⟩ := h
    rfl
  · obtain ⟨m, q, mt, M, i, n, x, rfl, z, ex, l, lq, qq⟩ := h
    have li : i < M.q.length := (List.getElem?_eq_some_iff.mp ex).1
    refine ⟨_, (pss_cons (ps_set (i := 3) sc_law_leave.nd rfl (by first | exact Or.inl rfl | exact Or.inr rfl) (pe_ix ix_list (pe_dget (hu_of hr) (pv 0) pe_str (fun _ _ => rfl)) (pv 1) (fun _ _ => rfl)))
    (pss_cons (ps_dput (hu_of hr) (pv 0) pe_str (pe_op op_cat (pe_slice sl_list (pe_dget (hu_of hr) (pv 0) pe_str (fun _ _ => rfl)) po_none (po_some (pv 1))) (pe_slice sl_list (pe_dget (hu_of hr) (pv 0) pe_str (fun _ _ => rfl)) (po_some (pe_op op_add (pv 1) (pv 2))) po_none)) rfl)
    (pss_cons (ps_dput (hu_of hr) (pv 0) pe_str (pe_op op_add (pe_dget (hu_of hr) (pv 0) pe_str (fun _ _ => rfl)) (pv 2)) rfl)
    (pss_one (ps_ret (pv 3)))))), ?_⟩
    refine ⟨_, rfl, m, _, rfl, md_get z.d (md_queue ..), _, rfl, q, _, _, _, rfl, rfl, .of z.q, atI_ofB (by omega) (by rw [Int.toNat_natCast, List.getElem?_map, ex]; rfl), ?_⟩
    have t1 : cutV (M.q.map V.int) none (some (i : Int)) = (M.q.take i).map V.int := by
      have e : HT.sIx (M.q.map V.int).length (M.q.map V.int).length (some (i : Int)) = i := by
        have := HT.sIx_nat (M.q.map V.int).length (M.q.map V.int).length i
        rw [List.length_map] at *
        omega
      unfold cutV
      rw [e, HT.sIx_none, List.drop_zero, Nat.sub_zero, List.map_take]
    have t2 : cutV (M.q.map V.int) (some ((i : Int) + n)) none = (M.q.drop (i + n)).map V.int := by
      have e : HT.sIx (M.q.map V.int).length 0 (some ((i + n : Nat) : Int)) = i + n := by
        have := HT.sIx_nat (M.q.map V.int).length 0 (i + n)
        rw [List.length_map] at *
        omega
      unfold cutV
      rw [show ((i : Int) + n) = ((i + n : Nat) : Int) by omega, e, HT.sIx_none, List.map_drop, List.take_of_length_le (by rw [List.length_drop]; omega)]
    refine ⟨_, rfl, m, _, rfl, md_get z.d (md_queue ..), _, rfl, _, rfl, q, _, rfl, .of z.q, fun l1 n1 => ?_⟩
    rw [t1]
    have s1 := same_upd (o := .lst ((M.q.take i).map V.int)) n1
    refine ⟨_, rfl, m, _, rfl, md_get (s1 _ _ z.d) (md_queue ..), _, rfl, _, rfl, _, _, rfl, rfl, _, rfl, q, _, rfl, .of (s1 _ _ z.q), fun l2 n2 => ?_⟩
    rw [t2]
    have s2 := same_upd (o := .lst ((M.q.drop (i + n)).map V.int)) n2
    refine ⟨l1, l2, _, _, rfl, rfl, s2 _ _ upd_same, upd_same, ?_, fun l3 n3 => ?_⟩
    · rw [List.length_map, List.length_map, List.length_take, List.length_drop]
      exact Nat.le_of_lt (small (by omega))
    have s3 := s1.trans (s2.trans (same_upd (o := .lst ((M.q.take i).map V.int ++ (M.q.drop (i + n)).map V.int)) n3))
    have n3' : H l3 = none := (s1.trans s2).free n3
    have h3 : (upd (upd (upd H l1 (.lst ((M.q.take i).map V.int))) l2 (.lst ((M.q.drop (i + n)).map V.int))) l3 (.lst ((M.q.take i).map V.int ++ (M.q.drop (i + n)).map V.int))) l3 = some (.lst ((levM M i n).q.map V.int)) := by
      rw [upd_same]
      show _ = some (HO.lst ((M.q.take i ++ M.q.drop (i + n)).map V.int))
      rw [List.map_append]
    generalize upd (upd (upd H l1 (.lst ((M.q.take i).map V.int))) l2 (.lst ((M.q.drop (i + n)).map V.int))) l3 (.lst ((M.q.take i).map V.int ++ (M.q.drop (i + n)).map V.int)) = H3 at *
    have m3 : l3 ≠ m := (ne_of_none z.d n3').symm
    refine ⟨_, rfl, m, _, rfl, md_put (s3 _ _ z.d) (mdp_queue ..) (md_len ..), ?_⟩
    have b4 : But m H3 (upd H3 m (.dK (md M.k l3 mt M.c M.g))) := but_upd
    have d4 : (upd H3 m (.dK (md M.k l3 mt M.c M.g))) m = some (.dK (md M.k l3 mt M.c M.g)) := upd_same
    generalize upd H3 m (.dK (md M.k l3 mt M.c M.g)) = H4 at *
    refine ⟨_, rfl, m, _, rfl, md_get d4 (md_gone ..), _, rfl, _, _, rfl, rfl, _, rfl, m, _, rfl, md_put d4 (mdp_gone ..) (md_len ..), _, rfl, ?_⟩
    have b5 : But m H4 (upd H4 m (.dK (md M.k l3 mt M.c (M.g + n)))) := but_upd
    exact qq _ l3 ((Same.but s3).trans (b4.trans b5)) n3' ⟨upd_same, b5 _ _ m3 (b4 _ _ m3 h3), b5 _ _ z.mt.symm (b4 _ _ z.mt.symm (s3 _ _ z.t))⟩
end
end UP

set_option Elab.async false
set_option linter.all false
set_option maxRecDepth 100000
set_option maxHeartbeats 4000000
set_option pp.maxSteps 300
namespace UP
open PySem PySem.Spec PyProof.Rows L2
theorem rg1_none (p : Int) : rgS 1 [] p = [(p, p)] := by
  unfold rgS
  show [] ++ [(p * 1, p * 1 + 1 - 1)] = _
  rw [Int.mul_one, List.nil_append]
  congr 2
  omega
theorem rg1_some (F : List Rg) (l : Rg) (p : Int) : rgS 1 (F ++ [l]) p = if l.2 = p - 1 then F ++ [(l.1, p)] else (F ++ [l]) ++ [(p, p)] := by
  unfold rgS
  rw [List.getLast?_concat]
  show (if l.2 = p * 1 - 1 then (F ++ [l]).dropLast ++ [(l.1, p * 1 + 1 - 1)] else (F ++ [l]) ++ [(p * 1, p * 1 + 1 - 1)]) = _
  rw [Int.mul_one, List.dropLast_concat, show p + 1 - 1 = p by omega]
theorem rgR_snoc (ps : List Int) (p : Int) : rgR 1 (ps ++ [p]) = rgS 1 (rgR 1 ps) p := by
  unfold rgR
  rw [List.foldl_append]
  rfl
theorem rgR_len : ∀ (ps : List Int), (rgR 1 ps).length ≤ ps.length := by
  intro ps
  have gen : ∀ (ps : List Int) (F : List Rg), (ps.foldl (rgS 1) F).length ≤ F.length + ps.length := by
    intro ps
    induction ps with
    | nil => intro F; exact Nat.le_refl _
    | cons p t ih =>
      intro F
      have h := ih (rgS 1 F p)
      have h2 : (rgS 1 F p).length ≤ F.length + 1 := by
        rcases List.eq_nil_or_concat F with e | ⟨F0, l, e⟩
        · rw [e, rg1_none]
          exact Nat.le_refl _
        · rw [List.concat_eq_append] at e
          rw [e, rg1_some]
          split <;> simp
      show (t.foldl (rgS 1) (rgS 1 F p)).length ≤ F.length + (t.length + 1)
      omega
  have := gen ps []
  rw [List.length_nil, Nat.zero_add] at this
  exact this
theorem can_pv : ∀ (rs : List Rg), PyData.canLayAll0 (rs.map fun p => .tuple [.int p.1, .int p.2]) = true
  | [] => by simp [PyData.canLayAll0]
  | r :: t => by
    simp only [List.map_cons, PyData.canLayAll0, can_pv t]
    simp [PyData.canLay0, PyData.canLayAll0]
theorem depth_pv : ∀ (rs : List Rg), PyData.depthAll (rs.map fun p => .tuple [.int p.1, .int p.2]) ≤ 1
  | [] => by simp [PyData.depthAll]
  | r :: t => by
    simp only [List.map_cons, PyData.depthAll]
    refine Nat.max_le.mpr ⟨?_, depth_pv t⟩
    simp [PyData.depth, PyData.depthAll]
def dPv (p : Rg) : PyData := .tuple [.int p.1, .int p.2]
theorem shaped_pv (rs : List Rg) : SeqAt.shaped (.list (rs.map dPv)) = true := by
  unfold SeqAt.shaped
  rw [PyData.canLay0, show PyData.canLayAll0 (rs.map dPv) = true from can_pv rs, PyData.depth]
  have : PyData.depthAll (rs.map dPv) ≤ 1 := depth_pv rs
  exact decide_eq_true (by omega)
theorem dp_pv {K : PySem.W.Frag} {H : Hp} : ∀ {xs : List V} {rs : List Rg}, Paired (PV H) xs rs → DpAll K H xs (rs.map dPv)
  | _, _, .nil => .nil
  | _, _, .cons ⟨t, e, h⟩ r => by
    subst e
    exact .cons (.tup (.of h) (.cons (.int _) (.cons (.int _) .nil))) (dp_pv r)
theorem eqv_nilP (rs : List Rg) : PyData.eqv (.list (rs.map dPv)) (.list []) = rs.isEmpty := by
  cases rs with
  | nil => simp [PyData.eqv, PyData.eqvAll]
  | cons x t => simp [PyData.eqv, PyData.eqvAll]
def six : List Str := ["a", "b", "ab", "zz", "abcdefgh", "abcdefgi"]
theorem six_ok : ∀ s ∈ six, KindOk s := by decide +kernel
/-- a valid operation -/
def Vld (M : Mod) (o : Op) : Prop := (∃ (k : Str) (n : Nat), o = (("arrive" : Str), .inr k, (n : Int)) ∧ KindOk k ∧ 1 ≤ n ∧ n ≤ 8) ∨ ∃ (i n : Nat), o = (("give_up" : Str), .inl (i : Int), (n : Int)) ∧ 1 ≤ n ∧ i + n ≤ M.q.length
theorem ag : ¬ ("give_up" : Str) = "arrive" := by decide +kernel
section
variable {P : Program} {w : World} {K : PySem.W.Frag} {mg : Str → Option Value} {base : Heap}
/-! _law_do: slots 0:model 1:call -/
abbrev s_law_do : Stmt := topS 51
theorem sc_law_do : FnScope ["model", "call"] ["model", "call"] (defScope s_law_do) := ⟨rfl, rfl, rfl, by decide +kernel, rfl, by decide +kernel, by decide +kernel⟩
def sp_law_do : Sp := fun vs H Q _ => ∃ (m q mt : Addr) (M : Mod) (u : V) (o : Op), vs = [.ref m, u] ∧ ModAt H m q mt M ∧ MOk M ∧ OpV H u o ∧ Vld M o ∧ M.q.length ≤ 10000 ∧ M.P.length ≤ 10000 ∧
  (∀ k n, o = (("arrive" : Str), .inr k, ((n : Nat) : Int)) → ∀ H', Mk3 m q mt H H' → ModAt H' m q mt (arrM M k n) → Q (.int (((arrM M k n).P.length : Int) - M.P.length)) H') ∧
  (∀ i n x, o = (("give_up" : Str), .inl ((i : Nat) : Int), ((n : Nat) : Int)) → M.q[i]? = some x → ∀ H' q', But m H H' → H q' = none → ModAt H' m q' mt (levM M i n) → Q (.int x) H')
theorem ok_law_do (D : Df K mg "_law_do" s_law_do) (G_law_arrive : Has P w K mg base 1 "_law_arrive" ["model", "kind", "size"] sp_law_arrive) (G_law_leave : Has P w K mg base 1 "_law_leave" ["model", "index", "size"] sp_law_leave) : Has P w K mg base 2 "_law_do" ["model", "call"] sp_law_do := by
  refine has_of D sc_law_do (fun _ _ _ _ _ _ us hl => match us, hl with | [_, _], _ => rfl) (fun vs H Q E h => ?_) (fun f cdv A outer s₀ H vs Q E hr h => ?_)
  · obtain ⟨_, _, _, _, _, _, rfl, _⟩ := h
    rfl
  · obtain ⟨m, q, mt, M, u, o, rfl, z, ok, ⟨t, rfl, ht⟩, vl, lq, lp, q1, q2⟩ := h
    refine ⟨_, (pss_one (ps_ret (pe_ifExp (pt_cmpR op_eq (pe_ix ix_tup (pv 1) pe_int (fun _ _ => rfl)) pe_str (nomark _)) (pe_callH G_law_arrive (hr.mono (by omega)) (by rfl) (pa_cons (pv 0) (pa_cons (pe_ix ix_tup (pv 1) pe_int (fun _ _ => rfl)) (pa_cons (pe_ix ix_tup (pv 1) pe_int (fun _ _ => rfl)) pa_nil)))) (pe_callH G_law_leave (hr.mono (by omega)) (by rfl) (pa_cons (pv 0) (pa_cons (pe_ix ix_tup (pv 1) pe_int (fun _ _ => rfl)) (pa_cons (pe_ix ix_tup (pv 1) pe_int (fun _ _ => rfl)) pa_nil))))))), ?_⟩
    rcases vl with ⟨k, n, rfl, kk, n1, n8⟩ | ⟨i, n, rfl, n1, l⟩
    · refine ⟨_, rfl, t, _, 0, _, rfl, rfl, .of ht, rfl, rfl, _, rfl, iteP (decide_eq_true rfl) ?_⟩
      exact ⟨_, rfl, _, rfl, t, _, 1, _, rfl, rfl, .of ht, rfl, _, rfl, t, _, 2, _, rfl, rfl, .of ht, rfl, m, q, mt, M, k, n, rfl, z, ok, by omega, lq, lp, fun H' f' z' => q1 k n rfl H' f' z'⟩
    · refine ⟨_, rfl, t, _, 0, _, rfl, rfl, .of ht, rfl, rfl, _, rfl, iteN (decide_eq_false (fun e => ag (V.str.inj e))) ?_⟩
      obtain ⟨x, ex⟩ : ∃ x, M.q[i]? = some x := ⟨_, List.getElem?_eq_getElem (by omega)⟩
      exact ⟨_, rfl, _, rfl, t, _, 1, _, rfl, rfl, .of ht, rfl, _, rfl, t, _, 2, _, rfl, rfl, .of ht, rfl, m, q, mt, M, i, n, x, rfl, z, ex, l, lq, fun H' q' b' n' z' => q2 i n x rfl ex H' q' b' n' z'⟩
/-! _law_ranges: slots 0:positions 1:found 2:position -/
abbrev s_law_ranges : Stmt := topS 52
theorem sc_law_ranges : FnScope ["positions", "found", "position"] ["positions"] (defScope s_law_ranges) := ⟨rfl, rfl, rfl, by decide +kernel, rfl, by decide +kernel, by decide +kernel⟩
def sp_law_ranges : Sp := fun vs H Q _ => ∃ (a : Addr) (ps : List Int), vs = [.ref a] ∧ H a = some (.lst (ps.map V.int)) ∧ ps.length ≤ 100000 ∧ ∀ H' p, Same H H' → H p = none → Rngs H' p (rgR 1 ps) → Q (.ref p) H'
theorem ok_law_ranges (D : Df K mg "_law_ranges" s_law_ranges) : Has P w K mg base 1 "_law_ranges" ["positions"] sp_law_ranges := by
  refine has_of D sc_law_ranges (fun _ _ _ _ _ _ us hl => match us, hl with | [_], _ => rfl) (fun vs H Q E h => ?_) (fun f cdv A outer s₀ H vs Q E hr h => ?_)
  · obtain ⟨_, _, rfl, _⟩ := h
    rfl
  · obtain ⟨a, ps, rfl, ha, lp, q⟩ := h
    refine ⟨_, (pss_cons (ps_set (i := 1) sc_law_ranges.nd rfl (by first | exact Or.inl rfl | exact Or.inr rfl) (pe_lst pa_nil))
    (pss_cons (ps_for PassesOwn.never rfl (pi_list (pv 0)) (pg_name (i := 2) sc_law_ranges.nd rfl (by first | exact Or.inl rfl | exact Or.inr rfl))
      (pss_one (ps_if (PW.pt (pw_and (pt_cmpR (op_neD hr.units) (pv 1) (pe_lst pa_nil) (nomark _)) (pw_and1 (pt_cmpR op_eq (pe_ix ix_tup (pe_ix ix_list (pv 1) (pe_un un_neg pe_int) (fun _ _ => rfl)) pe_int (fun _ _ => rfl)) (pe_op op_sub (pv 2) pe_int) (nomark _))))) (pss_one (ps_asg (pe_tup (pa_cons (pe_ix ix_tup (pe_ix ix_list (pv 1) (pe_un un_neg pe_int) (fun _ _ => rfl)) pe_int (fun _ _ => rfl)) (pa_cons (pv 2) pa_nil))) (pg_sub (pv 1) (pe_un un_neg pe_int) set_list))) (pss_one (ps_expr (pe_bm PySem.F.plainAttrs_list PySem.F.slot_list_append PySem.F.type_list_append mt_append (pv 1) (pa_cons (pe_tup (pa_cons (pv 2) (pa_cons (pv 2) pa_nil))) pa_nil)))))))
    (pss_one (ps_ret (pv 1))))), ?_⟩
    refine ⟨Nat.zero_le _, fun p np => ?_⟩
    have s1 := same_upd (o := .lst []) np
    refine ⟨_, rfl, a, rfl, ⟨_, .of (s1 _ _ ha)⟩, for_list (K := K) (a := a) (xs := ps.map V.int) (fun i σ H' => ∃ y, σ = [some (.ref a), some (.ref p), y] ∧ Same H H' ∧ Rngs H' p (rgR 1 (ps.take i)))
      ⟨none, rfl, s1, ⟨[], upd_same, .nil⟩⟩ (fun i σ H' _ hP => ?_) (fun i x σ H1 ex hP => ?_) (fun σ H1 hP => ?_)⟩
    · obtain ⟨_, _, sm, _⟩ := hP
      exact .of (sm _ _ ha)
    · obtain ⟨y, rfl, sm, ⟨xs, hx, hxp⟩⟩ := hP
      rw [List.getElem?_map] at ex
      cases e : ps[i]? with
      | none =>
        rw [e] at ex
        cases ex
      | some c =>
        rw [e] at ex
        cases ex
        have li : i < ps.length := (List.getElem?_eq_some_iff.mp e).1
        have eS : rgR 1 (ps.take (i + 1)) = rgS 1 (rgR 1 (ps.take i)) c := by rw [take_snoc e, rgR_snoc]
        have lR := rgR_len (ps.take i)
        rw [List.length_take] at lR
        generalize rgR 1 (ps.take i) = R at *
        have lx : xs.length = R.length := Paired.len hxp
        refine ⟨_, rfl, Nat.zero_le _, fun l nl => ?_⟩
        have sl := same_upd (o := .lst []) nl
        refine ⟨.list (R.map dPv), .list [], .lst (.of (sl _ _ hx)) (dp_pv (pvs_same sl hxp)), .lst (.of upd_same) .nil, shaped_pv _, shaped_nil, _, rfl, ?_⟩
        rw [eqv_nilP]
        replace sm := sm.trans sl
        replace hxp := pvs_same sl hxp
        replace hx := sl _ _ hx
        generalize upd H1 l (.lst []) = H2 at *
        have app : rgS 1 R c = R ++ [(c, c)] → ∀ t, H2 t = none → ∃ y', [some (V.ref a), some (V.ref p), some (V.int c)] = [some (V.ref a), some (V.ref p), y'] ∧ Same H (upd (upd H2 t (.tup [.int c, .int c])) p (.lst (xs ++ [.ref t]))) ∧ Rngs (upd (upd H2 t (.tup [.int c, .int c])) p (.lst (xs ++ [.ref t]))) p (rgR 1 (ps.take (i + 1))) := fun ea t nt => by
          have st := same_upd (o := .tup [.int c, .int c]) nt
          refine ⟨_, rfl, same_grow np (sm.trans st), _, upd_same, ?_⟩
          rw [eS, ea]
          exact Paired.app (pvs_grow (st _ _ hx) (pvs_same st hxp)) (.cons (PV.grow (st _ _ hx) ⟨t, rfl, upd_same⟩) .nil)
        rcases List.eq_nil_or_concat R with e0 | ⟨R0, z, e0⟩
        · subst e0
          refine iteN rfl ?_
          cases hxp
          exact ⟨_, rfl, .inl ⟨rfl, _, SqL.of hx⟩, _, rfl, _, rfl, (by show 2 ≤ sizeLine; decide), fun t nt => ⟨p, _, _, rfl, rfl, same_upd nt _ _ hx, small (by show 0 ≤ _; omega), app (rg1_none c) t nt⟩⟩
        · rw [List.concat_eq_append] at e0
          subst e0
          obtain ⟨ys0, yv, rfl, hy0, ⟨tl, rfl, htl⟩⟩ := paired_snocR R0 z hxp
          have exl : atI (ys0 ++ [V.ref tl]) (-1) = some (.ref tl) := atI_last _ _
          refine iteP (by cases R0 <;> rfl) ?_
          refine ⟨_, rfl, 1, rfl, p, _, -1, _, rfl, rfl, .of hx, exl, tl, _, 1, _, rfl, rfl, .of htl, rfl, _, rfl, _, _, rfl, rfl, rfl, _, rfl, ?_⟩
          by_cases nt : z.2 = c - 1
          · refine iteP (decide_eq_true (by show V.int z.2 = V.int (c - 1); rw [nt])) ?_
            refine ⟨_, rfl, 1, rfl, p, _, -1, _, rfl, rfl, .of hx, exl, tl, _, 0, _, rfl, rfl, .of htl, rfl, _, rfl, (by show 2 ≤ sizeLine; decide), fun u nu => ?_⟩
            have su := same_upd (o := .tup [.int z.1, .int c]) nu
            have hx1 := su _ _ hx
            refine ⟨_, rfl, 1, rfl, p, _, -1, ys0.length, rfl, rfl, hx1, ?_, ?_⟩
            · rw [List.length_append]
              exact ixN_lastX
            · rw [set_lastX]
              refine ⟨_, rfl, same_grow np (sm.trans su), _, upd_same, ?_⟩
              rw [eS, rg1_some, if_pos nt]
              exact Paired.app (pvs_grow hx1 (pvs_same su hy0)) (.cons (PV.grow hx1 ⟨_, rfl, upd_same⟩) .nil)
          · refine iteN (decide_eq_false fun y => nt (V.int.inj y)) ?_
            have la : (ys0 ++ [V.ref tl]).length ≤ 200000 := by omega
            exact ⟨_, rfl, .inl ⟨rfl, _, SqL.of hx⟩, _, rfl, _, rfl, (by show 2 ≤ sizeLine; decide), fun t nn => ⟨p, _, _, rfl, rfl, same_upd nn _ _ hx, small (by omega), app (by rw [rg1_some, if_neg nt]) t nn⟩⟩
    · obtain ⟨y, rfl, sm, hR⟩ := hP
      rw [List.length_map, List.take_length] at hR
      exact ⟨_, rfl, q _ p sm np hR⟩
end
end UP

set_option Elab.async false
set_option linter.all false
set_option maxRecDepth 100000
set_option maxHeartbeats 4000000
set_option pp.maxSteps 300
namespace UP
open PySem PySem.Spec PyProof.Rows L2
theorem two_at {a b r : Int} (r0 : 0 ≤ r) (r1 : r < 2) : ∃ g, atI [V.int a, V.int b] r = some (.int g) ∧ (g = a ∨ g = b) := by
  rcases (show r = 0 ∨ r = 1 by omega) with e | e
  · rw [e]
    exact ⟨a, rfl, .inl rfl⟩
  · rw [e]
    exact ⟨b, rfl, .inr rfl⟩
section
variable {P : Program} {w : World} {K : PySem.W.Frag} {mg : Str → Option Value} {base : Heap}
/-! _law_call: slots 0:bag 1:model 2:kinds 3:waiting 4:kind 5:index -/
abbrev s_law_call : Stmt := topS 53
theorem sc_law_call : FnScope ["bag", "model", "kinds", "waiting", "kind", "index"] ["bag", "model"] (defScope s_law_call) := ⟨rfl, rfl, rfl, by decide +kernel, rfl, by decide +kernel, by decide +kernel⟩
def sp_law_call : Sp := fun vs H Q _ => ∃ (p cl m q mt : Addr) (n : Nat) (M : Mod), vs = [.ref p, .ref m] ∧ Bag H p cl n ∧ n ≤ 100000000 ∧ ModAt H m q mt M ∧ (M.k = "" ∨ KindOk M.k) ∧ M.q.length ≤ 10000 ∧ m ≠ p ∧ q ≠ p ∧
  ∀ H' u o, But p H H' → Bag H' p cl (n + 5) → OpV H' u o → Vld M o → Q u H'
theorem ok_law_call (D : Df K mg "_law_call" s_law_call) (T : Tx mg) (G_law_draw : Has P w K mg base 2 "_law_draw" ["bag", "bound"] sp_law_draw) : Has P w K mg base 3 "_law_call" ["bag", "model"] sp_law_call := by
  refine has_of D sc_law_call (fun _ _ _ _ _ _ us hl => match us, hl with | [_, _], _ => rfl) (fun vs H Q E h => ?_) (fun f cdv A outer s₀ H vs Q E hr h => ?_)
  · obtain ⟨_, _, _, _, _, _, _, rfl, _⟩ := h
    rfl
  · obtain ⟨p, cl, m, q, mt, n, M, rfl, z, ln, zm, kM, lq, mp, qp, qq⟩ := h
    refine ⟨_, (pss_cons (ps_set (i := 2) sc_law_call.nd rfl (by first | exact Or.inl rfl | exact Or.inr rfl) (pe_lst (pa_cons pe_str (pa_cons pe_str (pa_cons pe_str (pa_cons pe_str (pa_cons pe_str (pa_cons pe_str pa_nil))))))))
    (pss_cons (ps_set (i := 3) sc_law_call.nd rfl (by first | exact Or.inl rfl | exact Or.inr rfl) (pe_callB call_len_seq (by rfl) T.n_len (by decide +kernel) (pa_cons (pe_dget (hu_of hr) (pv 1) pe_str (fun _ _ => rfl)) pa_nil)))
    (C8.pss_cut (ps_if (PW.pt (pw_and (pt_cmpR op_gt (pv 3) pe_int (nomark _)) (pw_and1 (pt_cmpR op_eq (pe_callH G_law_draw (hr.mono (by omega)) (by rfl) (pa_cons (pv 0) (pa_cons pe_int pa_nil))) pe_int (nomark _))))) (pss_cons (ps_set (i := 5) sc_law_call.nd rfl (by first | exact Or.inl rfl | exact Or.inr rfl) (pe_callH G_law_draw (hr.mono (by omega)) (by rfl) (pa_cons (pv 0) (pa_cons (pv 3) pa_nil))))
    (pss_one (ps_ret (pe_tup (pa_cons pe_str (pa_cons (pv 5) (pa_cons (pe_op op_add pe_int (pe_callH G_law_draw (hr.mono (by omega)) (by rfl) (pa_cons (pv 0) (pa_cons (pe_ix ix_list (pe_lst (pa_cons pe_int (pa_cons (pe_op op_sub (pv 3) (pv 5)) pa_nil))) (pe_callH G_law_draw (hr.mono (by omega)) (by rfl) (pa_cons (pv 0) (pa_cons pe_int pa_nil))) (fun _ _ => rfl)) pa_nil)))) pa_nil))))))) pss_nil)
    (pss_cons (ps_set (i := 4) sc_law_call.nd rfl (by first | exact Or.inl rfl | exact Or.inr rfl) (pe_ix ix_list (pe_lst (pa_cons (pe_dget (hu_of hr) (pv 1) pe_str (fun _ _ => rfl)) (pa_cons (pe_ix ix_list (pv 2) (pe_callH G_law_draw (hr.mono (by omega)) (by rfl) (pa_cons (pv 0) (pa_cons pe_int pa_nil))) (fun _ _ => rfl)) pa_nil))) (pe_op op_fdiv (pe_callH G_law_draw (hr.mono (by omega)) (by rfl) (pa_cons (pv 0) (pa_cons pe_int pa_nil))) pe_int) (fun _ _ => rfl)))
    (C8.pss_cut (ps_set (i := 4) sc_law_call.nd rfl (by first | exact Or.inl rfl | exact Or.inr rfl) (pe_ifExp (pt_cmpR op_ne (pv 4) pe_str (nomark _)) (pv 4) pe_str))
    (pss_one (ps_ret (pe_tup (pa_cons pe_str (pa_cons (pv 4) (pa_cons (pe_op op_add pe_int (pe_callH G_law_draw (hr.mono (by omega)) (by rfl) (pa_cons (pv 0) (pa_cons (pe_ix ix_list (pe_lst (pa_cons pe_int (pa_cons pe_int (pa_cons pe_int pa_nil)))) (pe_callH G_law_draw (hr.mono (by omega)) (by rfl) (pa_cons (pv 0) (pa_cons pe_int pa_nil))) (fun _ _ => rfl)) pa_nil)))) pa_nil))))))))))), ?_⟩
    refine ⟨(by show 6 ≤ sizeLine; decide), fun kl nk => ?_⟩
    have s1 := same_upd (o := .lst [.str "a", .str "b", .str "ab", .str "zz", .str "abcdefgh", .str "abcdefgi"]) nk
    have hk1 : (upd H kl (.lst [.str "a", .str "b", .str "ab", .str "zz", .str "abcdefgh", .str "abcdefgi"])) kl = some (.lst (six.map V.str)) := upd_same
    have z1 := z.same s1
    have zm1 := zm.same s1
    have kp : kl ≠ p := z.ne nk
    have B1 : But p H (upd H kl (.lst [.str "a", .str "b", .str "ab", .str "zz", .str "abcdefgh", .str "abcdefgi"])) := Same.but s1
    generalize upd H kl (.lst [.str "a", .str "b", .str "ab", .str "zz", .str "abcdefgh", .str "abcdefgi"]) = H1 at *
    have lm : (M.q.map V.int).length = M.q.length := List.length_map ..
    refine ⟨_, rfl, m, _, rfl, md_get zm1.d (md_queue ..), q, _, rfl, .inl (.of zm1.q), ?_⟩
    rw [lm]
    refine ⟨fun σ' H' => ∃ y5, σ' = [some (.ref p), some (.ref m), some (.ref kl), some (.int M.q.length), none, y5] ∧ But p H1 H' ∧ Bag H' p cl (n + 1), ?_, fun σ' H2 hM => ?_⟩
    · refine ⟨_, rfl, _, _, rfl, rfl, _, rfl, ?_⟩
      by_cases c0 : (0 : Int) < M.q.length
      · refine iteP (decide_eq_true c0) ⟨_, rfl, p, cl, n, 4, rfl, z1, by omega, by decide, by decide, fun H2 r2 b2 z2 r20 r21 => ⟨rfl, _, rfl, ite2 (fun e => ?_) (fun e => ?_)⟩⟩
        · refine ⟨_, rfl, _, rfl, p, cl, n + 1, _, rfl, z2, by omega, by omega, wideB (by omega) (by omega), fun H3 i b3 z3 i0 i1 => ?_⟩
          obtain ⟨I, rfl⟩ : ∃ I : Nat, i = I := ⟨i.toNat, by omega⟩
          refine ⟨_, rfl, _, rfl, _, rfl, _, rfl, _, _, rfl, rfl, (by show 2 ≤ sizeLine; decide), fun l nl => ?_⟩
          have s4 := same_upd (o := .lst [.int 1, .int ((M.q.length : Int) - I)]) nl
          have hl4 : (upd H3 l (.lst [.int 1, .int ((M.q.length : Int) - I)])) l = some (.lst [.int 1, .int ((M.q.length : Int) - I)]) := upd_same
          have lp := z3.ne nl
          refine ⟨_, rfl, p, cl, n + 2, 2, rfl, z3.same s4, by omega, by decide, by decide, fun H5 r5 b5 z5 r50 r51 => ?_⟩
          obtain ⟨g, hg, eg⟩ := two_at (a := 1) (b := (M.q.length : Int) - I) r50 r51
          have g1 : 1 ≤ g ∧ g ≤ (M.q.length : Int) - I := by omega
          refine ⟨l, _, r5, _, rfl, rfl, .of (b5 _ _ lp hl4), hg, p, cl, n + 3, g, rfl, z5, by omega, by omega, wideB (by omega) (by omega), fun H6 r6 b6 z6 r60 r61 => ⟨_, _, rfl, rfl, (by show 3 ≤ sizeLine; decide), fun t nt => ?_⟩⟩
          obtain ⟨J, rfl⟩ : ∃ J : Nat, r6 = J := ⟨r6.toNat, by omega⟩
          have s7 := same_upd (o := .tup [.str "give_up", .int (I : Int), .int (1 + (J : Int))]) nt
          refine qq _ _ (("give_up" : Str), .inl (I : Int), 1 + (J : Int)) (B1.trans (b2.trans (b3.trans ((Same.but s4).trans (b5.trans (b6.trans (Same.but s7))))))) ((z6.mono (by omega)).same s7) ⟨t, rfl, upd_same⟩ (.inr ⟨I, 1 + J, ?_, by omega, by omega⟩)
          show _ = ((("give_up" : Str), (Sum.inl (I : Int) : Key), ((1 + J : Nat) : Int)) : Op)
          rw [show ((1 + J : Nat) : Int) = 1 + (J : Int) by omega]
        · exact ⟨_, rfl, b2, z2⟩
      · exact iteN (decide_eq_false c0) ⟨_, rfl, But.refl, z1.mono (Nat.le_succ _)⟩
    · obtain ⟨y5, rfl, b2, z2⟩ := hM
      have d2 := b2 _ _ mp zm1.d
      have k2 := b2 _ _ kp hk1
      refine ⟨_, rfl, m, _, rfl, md_get d2 (md_kind ..), _, rfl, _, rfl, p, cl, n + 1, 6, rfl, z2, by omega, by decide, by decide, fun H3 r3 b3 z3 r30 r31 => ?_⟩
      have l6 : r3.toNat < six.length := by
        show r3.toNat < 6
        omega
      have e6 : atI (six.map V.str) r3 = some (.str six[r3.toNat]) := atI_ofB r30 (by rw [List.getElem?_map, List.getElem?_eq_getElem l6]; rfl)
      have ok6 := six_ok six[r3.toNat] (List.getElem_mem l6)
      generalize six[r3.toNat] = k6 at e6 ok6
      refine ⟨kl, _, r3, _, rfl, rfl, .of (b3 _ _ kp k2), e6, (by show 2 ≤ sizeLine; decide), fun l nl => ?_⟩
      have s4 := same_upd (o := .lst [.str M.k, .str k6]) nl
      have hl4 : (upd H3 l (.lst [.str M.k, .str k6])) l = some (.lst [.str M.k, .str k6]) := upd_same
      have lp := z3.ne nl
      refine ⟨_, rfl, p, cl, n + 2, 3, rfl, z3.same s4, by omega, by decide, by decide, fun H5 r5 b5 z5 r50 r51 => ⟨_, _, rfl, rfl, ⟨by decide, by decide⟩, ?_⟩⟩
      have hk : ∃ k0, atI [V.str M.k, V.str k6] (r5 / 2) = some (.str k0) ∧ (k0 = "" ∨ KindOk k0) := by
        rcases (show r5 = 0 ∨ r5 = 1 ∨ r5 = 2 by omega) with e | e | e
        · rw [e]
          exact ⟨M.k, rfl, kM⟩
        · rw [e]
          exact ⟨M.k, rfl, kM⟩
        · rw [e]
          exact ⟨k6, rfl, .inr ok6⟩
      obtain ⟨k0, hk0, ok0⟩ := hk
      refine ⟨l, _, _, _, rfl, rfl, .of (b5 _ _ lp hl4), hk0, ?_⟩
      refine ⟨fun σ' H' => ∃ k, σ' = [some (.ref p), some (.ref m), some (.ref kl), some (.int M.q.length), some (.str k), y5] ∧ H' = H5 ∧ KindOk k, ?_, fun σ' H6 hM => ?_⟩
      · refine ⟨_, rfl, rfl, _, rfl, ?_⟩
        by_cases ce : k0 = ""
        · exact iteN (by rw [decide_eq_true (by rw [ce])]; rfl) ⟨"a", rfl, rfl, by decide +kernel⟩
        · refine iteP (by rw [decide_eq_false (fun e => ce (V.str.inj e))]; rfl) ⟨_, rfl, k0, rfl, rfl, ?_⟩
          rcases ok0 with e | e
          · exact absurd e ce
          · exact e
      · obtain ⟨k, rfl, rfl, kk⟩ := hM
        refine ⟨_, rfl, _, rfl, (by show 3 ≤ sizeLine; decide), fun l7 nl7 => ?_⟩
        have s7 := same_upd (o := .lst [.int 1, .int 3, .int 8]) nl7
        have hl7 : (upd H6 l7 (.lst [.int 1, .int 3, .int 8])) l7 = some (.lst [.int 1, .int 3, .int 8]) := upd_same
        have lp7 := z5.ne nl7
        refine ⟨_, rfl, p, cl, n + 3, 3, rfl, z5.same s7, by omega, by decide, by decide, fun H8 r8 b8 z8 r80 r81 => ?_⟩
        have hg : ∃ g : Int, atI [V.int 1, V.int 3, V.int 8] r8 = some (.int g) ∧ 1 ≤ g ∧ g ≤ 8 := by
          rcases (show r8 = 0 ∨ r8 = 1 ∨ r8 = 2 by omega) with e | e | e
          · rw [e]; exact ⟨1, rfl, by decide, by decide⟩
          · rw [e]; exact ⟨3, rfl, by decide, by decide⟩
          · rw [e]; exact ⟨8, rfl, by decide, by decide⟩
        obtain ⟨g, hg, g1, g8⟩ := hg
        refine ⟨l7, _, r8, _, rfl, rfl, .of (b8 _ _ lp7 hl7), hg, p, cl, n + 4, g, rfl, z8, by omega, by omega, wideB (by omega) (by omega), fun H9 r9 b9 z9 r90 r91 => ⟨_, _, rfl, rfl, (by show 3 ≤ sizeLine; decide), fun t nt => ?_⟩⟩
        obtain ⟨J, rfl⟩ : ∃ J : Nat, r9 = J := ⟨r9.toNat, by omega⟩
        have s10 := same_upd (o := .tup [.str "arrive", .str k, .int (1 + (J : Int))]) nt
        refine qq _ _ (("arrive" : Str), .inr k, 1 + (J : Int)) (B1.trans (b2.trans (b3.trans ((Same.but s4).trans (b5.trans ((Same.but s7).trans (b8.trans (b9.trans (Same.but s10))))))))) (z9.same s10) ⟨t, rfl, upd_same⟩ (.inl ⟨k, 1 + J, ?_, kk, by omega, by omega⟩)
        show _ = ((("arrive" : Str), (Sum.inr k : Key), ((1 + J : Nat) : Int)) : Op)
        rw [show ((1 + J : Nat) : Int) = 1 + (J : Int) by omega]
end
end UP

set_option Elab.async false
set_option linter.all false
set_option maxRecDepth 100000
set_option maxHeartbeats 4000000
set_option pp.maxSteps 300
namespace UP
open PySem PySem.Spec PyProof.Rows L2
/-! ### defs that call repr: no other repr is under way around them -/
structure FnG (P : Program) (w : World) (K : PySem.W.Frag) (mg : Str → Option Value) (base : Heap) (k : Nat) (f : Addr) (fd : FuncData) (ps : List Str) (sp : Sp) : Prop where
  len : ∀ vs H Q E, sp vs H Q E → vs.length = ps.length
  run : ∀ (A : Around) (outer : List Env) (s : Shared) (H : Hp) (args : Args) (us : List Value) (vs : List V) (Q : VK) (E : XK), Room k A → A.guards = some [] → Env0 P w K mg base A outer s H → BindsTo s fd args (ps.zip us) → Vals vs us → sp vs H Q E →
    codeAny (model P w) A (.call (.ref f) args) (CR CX0 outer P w H s Q E) s
def HasG (P : Program) (w : World) (K : PySem.W.Frag) (mg : Str → Option Value) (base : Heap) (k : Nat) (x : Str) (ps : List Str) (sp : Sp) : Prop :=
  ∃ f fd, mg x = some (.ref f) ∧ PySem.W.keepIn K (.ref f) = true ∧ Binds K fd ps [] ∧ FnG P w K mg base k f fd ps sp
section
variable {P : Program} {w : World} {K : PySem.W.Frag} {mg : Str → Option Value} {base : Heap}
theorem hasG_of {x : Str} {st : Stmt} {ps N : List Str} {k : Nat} {sp : Sp} (D : Df K mg x st) (S : FnScope N ps (defScope st))
    (hb : ∀ (kV doc pm : Value) (an : Option Addr) (cdv ct : Value) (us : List Value), us.length = ps.length → bindArgs (PySem.W.fnOf x x (defArgs st) (defBody st) (defScope st) .none kV doc pm an cdv ct) ⟨us, []⟩ = pure (ps.zip us))
    (len : ∀ vs H Q E, sp vs H Q E → vs.length = ps.length)
    (body : ∀ (f : Addr) (cdv : Value) (A : Around) (outer : List Env) (s : Shared) (H : Hp) (vs : List V) (Q : VK) (E : XK), Room k (A.deeper (envOfC x (defScope st) s.heap.objs.size f cdv)) → A.guards = some [] → sp vs H Q E →
      ∃ t, PSs (cxOf CX0 P w K mg base N x (defScope st) f cdv A outer s H E).nox (defBody st) t ∧ t { nx := fun _ H' => Q .non H', rt := Q } (start N vs) H) :
    HasG P w K mg base (k + 1) x ps sp := by
  obtain ⟨f, fd, g, F⟩ := D
  refine ⟨f, fd, g, F.kp, F.binds hb, len, ?_⟩
  obtain ⟨oc, od, kV, doc, pm, an, cdv, ct, osl, rfl, lk, hcd⟩ := F.ex
  intro A out s H args us vs Q E hr gd e0 hb rv hsp
  have inS : K.In s.heap := e0.mod.kin.keeps fun b o z => (e0.bs b o z).1
  have noL : s.heap.NoLimit := e0.mod.nolimit.keeps fun b o z => (e0.bs b o z).1
  have kinds : ∀ y ∈ ps.zip us, (defScope st).names.lookup y.1 = some .local ∨ ((defScope st).names.lookup y.1 = some .cell ∧ ((cellsFrom (s.heap.objs.size + 1) (defScope st).names []).lookup y.1).isSome = true) := by
    intro y hy
    rcases S.par y.1 (List.of_mem_zip (a := y.1) (b := y.2) hy).1 with z | z
    · exact Or.inl z
    · exact Or.inr ⟨z, PySem.W.cellsFrom_some _ _ _ (Or.inl z)⟩
  refine codeAny_call_function hr.depth (inS _ _ lk) rfl S.co S.gen rfl (PySem.W.codeRec_of inS hcd) (hb _ _ _ _ ?_)
  refine wpAny_newFunctionEnv_cells S.kind kinds fun env he s1 inC => ?_
  subst he
  refine ⟨noL.keeps inC.toInCall.keep, codeAny_func ?_⟩
  obtain ⟨t, ht0, hq⟩ := body f cdv A out s H vs Q E (hr.deeper _) gd hsp
  have ht := PSs.nox ht0
  have I0 : Inv (cxOf CX0 P w K mg base N x (defScope st) f cdv A out s H E) [] (start N vs) H s1 := inv_start S hr.hd e0 (len _ _ _ _ hsp) rv inC
  refine wpAny_mono (ht.run [] s1 (start N vs) H _ I0 hq) (fun fl s2 h2 => ?_) fun _ _ z => z
  cases fl with
  | next =>
    obtain ⟨σ2, H2, J, q2⟩ := h2
    exact ⟨V.non, H2, J.os, J.bare, J.base, J.hok, rfl, q2⟩
  | ret u =>
    obtain ⟨v, σ2, H2, J, rv2, q2⟩ := h2
    exact ⟨v, H2, J.os, J.bare, J.base, J.hok, rv2, q2⟩
  | brk =>
    obtain ⟨_, _, _, z⟩ := h2
    exact z.elim
  | cont =>
    obtain ⟨_, _, _, z⟩ := h2
    exact z.elim
end
section
variable {X : Cx}
theorem pe_callGH {k : Nat} {x : Str} {ps : List Str} {sp : Sp} {p pos : Pos} {e : Expr} {es : List Expr} {t : TA} (G : HasG X.prog X.w X.K X.mg X.base k x ps sp) (gd : X.A.guards = some []) (hr : Room k X.A) (hg : Gl X x) (ha : PA X (e :: es) t)
    (hdb : (x == ("__debug__" : Str)) = false := by decide) (he : starEach (e :: es) X.env = (false, eval e X.env) :: starEach es X.env := by rfl) (hpl : (backTo pos (starEach es X.env)).any (·.1) = false := by rfl) :
    PE X (.Call (.Name x p) (e :: es) [] pos) (tCall sp [] E0 t) := by
  obtain ⟨f, fd, g, kp, hb, F⟩ := G
  refine ⟨fun pins s σ H Q I h => ?_⟩
  refine wpAny_Call_Name_kw (ld_glob I hg g ?_ hdb)
  refine PySem.W.callWith_K (h₀ := X.base) I.ok.mod.kin kp (thn (ha.run pos pins s σ H _ I h) fun us s1 ⟨vs, H1, I1, r, q⟩ => ⟨I1.kIn, ?_⟩) he hpl
  have r2 : Vals (vs ++ []) (us ++ []) := r.append .nil
  have hl : (us ++ []).length = ps.length := by rw [← r2.length]; exact F.len _ _ _ _ q
  refine wpAny_call (codeAny_mono (F.run X.A X.stack s1 H1 ⟨us, []⟩ (us ++ []) (vs ++ []) Q E0 hr gd I1.env0 (hb s1 us I1.kIn hl) r2 q) fun r s' hq => ?_)
  cases r with
  | error e => exact pass0 pins σ H1 s1 e s' I1 hq
  | ok fl =>
    cases fl with
    | ret u => exact I1.after hq
    | next => exact False.elim hq
    | brk => exact False.elim hq
    | cont => exact False.elim hq
/-- repr of a list, a tuple or None -/
def rReprV (K : PySem.W.Frag) : List V → Hp → VK → Prop := fun xs H Q => (xs = [.non] ∧ Q (.str (PyData.none).shown) H) ∨ rRepr K xs H Q
theorem call_reprV {X : Cx} (hg : X.A.guards = some []) (hu : X.A.units + 70 < cLine) : CallR X (.builtin "repr") (rReprV X.K) := by
  intro pins s σ H xs us Q I r h
  rcases h with ⟨rfl, q⟩ | h
  · obtain ⟨u, rfl, ru⟩ := vals1 r
    obtain rfl : u = Value.none := ru
    exact PySem.P.repr_of_none ⟨.str (PyData.none).shown, H, I.kept (t' := s.toks + 1) (fun _ _ e => e), ⟨s.toks, rfl⟩, q⟩
  · exact call_reprD hg hu pins s σ H xs us Q I r h
end
end UP

set_option Elab.async false
set_option linter.all false
set_option maxRecDepth 100000
set_option maxHeartbeats 4000000
set_option pp.maxSteps 300
namespace UP
open PySem PySem.Spec PyProof.Rows L2
def dO5 : Option Run → PyData
  | none => .none
  | some r => .tuple [.str r.1, .int r.2]
theorem dp_o5 {K : PySem.W.Frag} {H : Hp} {v : V} {st : Option Run} (h : StV H v st) : Dp K H v (dO5 st) := by
  cases st with
  | none =>
    cases h
    exact .non
  | some r =>
    obtain ⟨t, rfl, ht⟩ := h
    exact .tup (.of ht) (.cons (.str _) (.cons (.int _) .nil))
theorem nice_o5 {st : Option Run} (h : ∀ r, st = some r → KindOk r.1 ∧ r.2.natAbs < 10 ^ 60) : Nice 404 1 (dO5 st) := by
  cases st with
  | none => exact nice_none.mono (by decide) (by decide)
  | some r =>
    have := nice_tup (w := 201) (n := 0) (ds := [.str r.1, .int r.2]) fun d hd => by
      rcases List.mem_cons.mp hd with e | e
      · rw [e]
        exact (nice_str (h r rfl).1).mono (by decide) (by decide)
      · rw [List.mem_singleton.mp e]
        exact nice_int (h r rfl).2
    exact this.mono (by show (201 + 1) * 2 ≤ 404; decide) (by decide)
theorem nice_pv {R : List Rg} (h : ∀ r ∈ R, r.1.natAbs < 10 ^ 60 ∧ r.2.natAbs < 10 ^ 60) (l : R.length ≤ 70) : Nice 28350 2 (.list (R.map dPv)) := by
  have := nice_list (w := 404) (n := 1) (ds := R.map dPv) fun d hd => by
    obtain ⟨r, hr, rfl⟩ := List.mem_map.mp hd
    have := nice_tup (w := 201) (n := 0) (ds := [.int r.1, .int r.2]) fun d hd => by
      rcases List.mem_cons.mp hd with e | e
      · rw [e]
        exact nice_int (h r hr).1
      · rw [List.mem_singleton.mp e]
        exact nice_int (h r hr).2
    exact this.mono (by show (201 + 1) * 2 ≤ 404; decide) (by decide)
  exact this.mono (by rw [List.length_map]; omega) (by decide)
/-- the number of ranges grows by one at most -/
theorem of_zero {b : Int} : ∀ {R : List Rg}, Gd R b → ofR R 0 = []
  | [], _ => rfl
  | p :: t, g => by
    have ka := g.1
    have ra : rmR p 0 = 0 := by
      unfold rmR
      rw [if_neg (by omega)]
    show ofP p 0 ++ ofR t (0 - rmR p 0) = []
    unfold ofP
    rw [ra, if_neg (by omega), Int.sub_zero, of_zero g.2.2.2]
    rfl
theorem of_wf_len {b : Int} : ∀ {R : List Rg} {n : Int}, Gd R b → 0 ≤ n → (ofR R n).length + (wfR R n).length ≤ R.length + 1
  | [], _, _, _ => Nat.zero_le _
  | p :: t, n, g, h => by
    obtain ⟨r1, r2, r3, r4⟩ := rm_le g.1 h
    show (ofP p n ++ ofR t (n - rmR p n)).length + (wfP p n ++ wfR t (n - rmR p n)).length ≤ t.length + 1 + 1
    rw [List.length_append, List.length_append]
    have h1 := ofP_len p n
    have h2 := wfP_len p n
    by_cases c : rmR p n < p.2 - p.1 + 1
    · have e := r4 c
      rw [show n - rmR p n = 0 by omega, of_zero g.2.2.2, wf_zero g.2.2.2]
      show (ofP p n).length + 0 + _ ≤ _
      omega
    · have e : wfP p n = [] := if_neg (by omega)
      have ih := of_wf_len (n := n - rmR p n) g.2.2.2 (by omega)
      rw [e]
      show (ofP p n).length + _ + (0 + _) ≤ _
      omega
theorem giv_len {S : Sta} {b : Int} {i c : Int} {k : Str} (g : Gd S.R b) (h : 0 ≤ i) : (givS S i c k).R.length ≤ S.R.length + 1 := by
  show (ofR S.R i ++ wfR (wfR S.R i) c).length ≤ _
  have h1 := of_wf_len g h
  have h2 := wfR_len (wfR S.R i) c
  rw [List.length_append]
  omega
theorem arr_len {S : Sta} {k : Str} {c : Int} : (arrS S k c).R.length ≤ S.R.length + 1 := rarR_len _ _ _ _
/-- where the ranges stand -/
theorem rg_bd {b : Int} : ∀ {R : List Rg}, Gd R b → (∀ x ∈ flR R, 0 ≤ x) → ∀ r ∈ R, 0 ≤ r.1 ∧ r.1 ≤ r.2 ∧ r.2 < b
  | [], _, _, r, h => by cases h
  | p :: t, g, k, r, h => by
    rcases List.mem_cons.mp h with e | e
    · rw [e]
      refine ⟨k p.1 ?_, g.1, g.2.1⟩
      refine List.mem_append.mpr (.inl ?_)
      unfold flP
      obtain ⟨j, ej⟩ : ∃ j : Nat, (p.2 - p.1 + 1).toNat = j + 1 := ⟨(p.2 - p.1).toNat, by have := g.1; omega⟩
      rw [ej]
      exact List.mem_cons_self ..
    · exact rg_bd g.2.2.2 (fun x hx => k x (List.mem_append.mpr (.inr hx))) r e
theorem mul_bd {a f : Int} (a0 : 0 ≤ a) (a1 : a ≤ 100000) (f0 : 0 ≤ f) (f1 : f ≤ 100000000000000000000000000000) : 0 ≤ a * f ∧ a * f ≤ 10000000000000000000000000000000000 := by
  refine ⟨Int.mul_nonneg a0 f0, ?_⟩
  have h1 := Int.mul_le_mul_of_nonneg_right a1 f0
  have h2 : (100000 : Int) * f ≤ 100000 * 100000000000000000000000000000 := Int.mul_le_mul_of_nonneg_left f1 (by decide)
  omega
theorem nf_current_state : NotF "current_state" := ⟨by decide +kernel, by decide +kernel, by decide +kernel, by decide +kernel, by decide +kernel, by decide +kernel⟩
theorem nf_waiting_positions : NotF "waiting_positions" := ⟨by decide +kernel, by decide +kernel, by decide +kernel, by decide +kernel, by decide +kernel, by decide +kernel⟩
theorem nf_arrival_count : NotF "arrival_count" := ⟨by decide +kernel, by decide +kernel, by decide +kernel, by decide +kernel, by decide +kernel, by decide +kernel⟩
theorem nf_pair_total : NotF "pair_total" := ⟨by decide +kernel, by decide +kernel, by decide +kernel, by decide +kernel, by decide +kernel, by decide +kernel⟩
theorem nf_give_up_count : NotF "give_up_count" := ⟨by decide +kernel, by decide +kernel, by decide +kernel, by decide +kernel, by decide +kernel, by decide +kernel⟩
theorem nf_partner_at : NotF "partner_at" := ⟨by decide +kernel, by decide +kernel, by decide +kernel, by decide +kernel, by decide +kernel, by decide +kernel⟩
theorem nf_arrive : NotF "arrive" := ⟨by decide +kernel, by decide +kernel, by decide +kernel, by decide +kernel, by decide +kernel, by decide +kernel⟩
theorem nf_give_up : NotF "give_up" := ⟨by decide +kernel, by decide +kernel, by decide +kernel, by decide +kernel, by decide +kernel, by decide +kernel⟩
theorem Stn.at {C : Addr} {H : Hp} {p ap ar ab : Addr} {S : Sta} {ops : List Op} (z : Stn C H p ap ar ab S ops) {m : Str} (nf : NotF m) : ∃ dx fs, H p = some (.ins C dx fs) ∧ fs.lookup m = none := by
  obtain ⟨⟨dx, v, h, _⟩, _⟩ := z
  exact ⟨dx, _, h, fl6_no nf ..⟩
section
variable {P : Program} {w : World} {K : PySem.W.Frag} {mg : Str → Option Value} {base : Heap} {C : Addr}
end
end UP

set_option Elab.async false
set_option linter.all false
set_option maxRecDepth 100000
set_option maxHeartbeats 4000000
set_option pp.maxSteps 300
namespace UP
open PySem PySem.Spec PyProof.Rows L2
/-! ### repr of None or a whole number -/
def rReprO : List V → Hp → VK → Prop := fun xs H Q => (xs = [.non] ∧ Q (.str (PyData.none).shown) H) ∨ ∃ i : Int, xs = [.int i] ∧ i.natAbs.log2 < 1920 ∧ Q (.str (toString i)) H
theorem call_reprO {X : Cx} : CallR X (.builtin "repr") rReprO := by
  intro pins s σ H xs us Q I r h
  rcases h with ⟨rfl, q⟩ | h
  · obtain ⟨u, rfl, ru⟩ := vals1 r
    obtain rfl : u = Value.none := ru
    exact PySem.P.repr_of_none ⟨.str (PyData.none).shown, H, I.kept (t' := s.toks + 1) (fun _ _ e => e), ⟨s.toks, rfl⟩, q⟩
  · exact SkE.call_repr_int pins s σ H xs us Q I r h
theorem log_bd {i : Int} (h0 : 0 ≤ i) (h1 : i ≤ 100000000000000000000000000000000000) : i.natAbs.log2 < 1920 := by
  have h : i.natAbs < 2 ^ 1920 := Nat.lt_of_le_of_lt (m := 100000000000000000000000000000000000) (by omega) (by decide +kernel)
  by_cases c : i.natAbs = 0
  · rw [c]
    decide
  · exact (Nat.log2_lt c).mpr h
theorem MR.mate_bd {M : Mod} {S : Sta} (h : MR M S) {a y : Int} (e : pgR S.B a = some y) : 0 ≤ y ∧ y < M.c := by
  have u := h.ok.u
  by_cases c : ∃ b, (a, b) ∈ M.P ∨ (b, a) ∈ M.P
  · obtain ⟨b, hb⟩ := c
    have u' := u
    rw [← h.fb] at u'
    rcases hb with z | z
    · have z' := z
      rw [← h.fb] at z'
      have := pg_first S.B (a, b) h.pb u' z'
      have : pgR S.B a = some b := this
      rw [e] at this
      cases this
      exact (h.ok.pb _ z).2
    · have z' := z
      rw [← h.fb] at z'
      have := pg_second S.B (b, a) h.pb u' z'
      have : pgR S.B a = some b := this
      rw [e] at this
      cases this
      exact (h.ok.pb _ z).1
  · have no : ∀ p ∈ M.P, p.1 ≠ a ∧ p.2 ≠ a := fun p hp => ⟨fun e => c ⟨p.2, .inl (by rw [← e]; exact hp)⟩, fun e => c ⟨p.1, .inr (by rw [← e]; exact hp)⟩⟩
    rw [pg_none S.B a h.pb (by rw [h.fb]; exact no)] at e
    cases e
/-- one operation on the model, either way -/
structure DoR (M : Mod) (o : Op) (M' : Mod) (r : Int) : Prop where
  a : (∃ (k : Str) (n : Nat), o = (("arrive" : Str), .inr k, (n : Int)) ∧ KindOk k ∧ 1 ≤ n ∧ n ≤ 8 ∧ M' = arrM M k n ∧ r = ((arrM M k n).P.length : Int) - M.P.length) ∨ ∃ (i n : Nat) (x : Int), o = (("give_up" : Str), .inl (i : Int), (n : Int)) ∧ 1 ≤ n ∧ i + n ≤ M.q.length ∧ M' = levM M i n ∧ M.q[i]? = some x ∧ r = x
def sp_do2 : Sp := fun vs H Q _ => ∃ (m q mt : Addr) (M : Mod) (u : V) (o : Op), vs = [.ref m, u] ∧ ModAt H m q mt M ∧ MOk M ∧ OpV H u o ∧ Vld M o ∧ M.q.length ≤ 10000 ∧ M.P.length ≤ 10000 ∧
  ∀ H' q' M' r, Mk3 m q mt H H' → (q' = q ∨ H q' = none) → ModAt H' m q' mt M' → DoR M o M' r → Q (.int r) H'
theorem do_imp {vs : List V} {H : Hp} {Q : VK} {E : XK} (h : sp_do2 vs H Q E) : sp_law_do vs H Q E := by
  obtain ⟨m, q, mt, M, u, o, e, z, ok, ho, vl, lq, lp, k⟩ := h
  refine ⟨m, q, mt, M, u, o, e, z, ok, ho, vl, lq, lp, fun kk n eo H' f' z' => ?_, fun i n x eo ex H' q' b' n' z' => ?_⟩
  · refine k H' q _ _ f' (.inl rfl) z' ⟨.inl ?_⟩
    rcases vl with ⟨k2, n2, e2, v1, v2, v3⟩ | ⟨i2, n2, e2, _⟩
    · rw [eo] at e2
      cases e2
      exact ⟨kk, n, eo, v1, by omega, by omega, rfl, rfl⟩
    · rw [eo] at e2
      exact absurd (congrArg (fun o : Op => o.1) e2) (fun z => ag z.symm)
  · refine k H' q' _ _ (Mk3.b1 b') (.inr n') z' ⟨.inr ?_⟩
    rcases vl with ⟨k2, n2, e2, _⟩ | ⟨i2, n2, e2, v1, v2⟩
    · rw [eo] at e2
      exact absurd (congrArg (fun o : Op => o.1) e2) ag
    · rw [eo] at e2
      cases e2
      exact ⟨i, n, x, eo, by omega, by omega, rfl, ex, rfl⟩
/-- the same operation on the small station -/
def opS (S : Sta) (k : Str) : Op → Sta
  | (_, .inr k', c) => arrS S k' c
  | (_, .inl i, c) => givS S i c k
theorem DoR.mr {M M' : Mod} {S : Sta} {o : Op} {r : Int} (d : DoR M o M' r) (h : MR M S) (g : 0 ≤ M.g) : MR M' (opS S M.k o) ∧ (opS S M.k o).R.length ≤ S.R.length + 1 ∧ (opS S M.k o).B.length ≤ S.B.length + S.R.length ∧ M'.c ≤ M.c + 8 ∧ 1 ≤ M'.c ∧ 0 ≤ M'.g ∧ ((M.k = "" ∨ KindOk M.k) → (M'.k = "" ∨ KindOk M'.k)) ∧ ((M.k = "" → M.q = []) → (M'.k = "" → M'.q = [])) := by
  rcases d.a with ⟨k, n, rfl, kk, n1, n8, rfl, _⟩ | ⟨i, n, x, rfl, n1, l, rfl, ex, _⟩
  · have kne : k ≠ "" := fun e => by
      rw [e] at kk
      exact absurd kk.1 (by decide +kernel)
    have hc := arr_c M k n
    have c0 := h.ok.c0
    refine ⟨(h.arr k n1).1, arr_len, ?_, by omega, by omega, by rw [arr_g]; exact g, fun kM => ?_, fun kq e => ?_⟩
    · show (S.B ++ brR S.R S.n _).length ≤ _
      rw [List.length_append]
      have := brR_len S.R S.n (leavR S.st k n)
      omega
    · by_cases c : M.q = [] ∨ M.k = k
      · rw [(arr_same c n).2.2, if_neg (by omega)]
        exact .inr kk
      · rw [(arr_other c n).2.2]
        split
        · exact .inr kk
        · exact kM
    · by_cases c : M.q = [] ∨ M.k = k
      · rw [(arr_same c n).2.2, if_neg (by omega)] at e
        exact absurd e kne
      · rw [(arr_other c n).2.2] at e
        split at e
        · exact absurd e kne
        · exact absurd (.inl (kq e)) c
  · obtain ⟨m1, m2, m3, _⟩ := h.lev n1 l
    have lx : i < M.q.length := (List.getElem?_eq_some_iff.mp ex).1
    have bx := h.ok.qb x (List.mem_of_getElem? ex)
    refine ⟨m1, giv_len h.gd (by omega), Nat.le_add_right _ _, ?_, ?_, ?_, fun kM => kM, fun kq e => ?_⟩
    · show M.c ≤ M.c + 8
      omega
    · show 1 ≤ M.c
      omega
    · show 0 ≤ M.g + n
      omega
    · have := kq e
      rw [this] at l
      have : i + n ≤ 0 := l
      omega
/-- what must stand apart -/
structure Sep (pb cl ap ar ab q : Addr) : Prop where
  a1 : ap ≠ pb
  a2 : ap ≠ cl
  a3 : ap ≠ q
  r1 : ar ≠ pb
  r2 : ar ≠ q
  b1 : ab ≠ pb
  b2 : ab ≠ q
  q1 : q ≠ pb
  q2 : q ≠ cl
end UP

set_option Elab.async false
set_option linter.all false
set_option maxRecDepth 100000
set_option maxHeartbeats 4000000
set_option pp.maxSteps 300
namespace UP
open PySem PySem.Spec PyProof.Rows L2
/-! ### a method called with a keyword; len by an own __len__ -/
def tMethN (C : Addr) (m : Str) (n j : Nat) (sp : Sp) (gV : List V → List V → List V) (E : XK) (ta : TE) (t tk : TA) : TE := fun σ H Q => ta σ H fun x H1 => ∃ a dx fs, x = .ref a ∧ H1 a = some (.ins C dx fs) ∧ fs.lookup m = none ∧
  t σ H1 fun vs H2 => tk σ H2 fun zs H3 => vs.length + 1 = n ∧ zs.length = j ∧ sp (gV (x :: vs) zs) H3 Q E
section
variable {X : Cx} {C : Addr} {k n : Nat} {m kw : Str} {ps : List Str} {sp : Sp} {d : V} {o e : Expr} {es : List Expr} {kws : List Keyword} {ta : TE} {t tk : TA} {p pos apos : Pos}
theorem pe_methNO {pl : Sem Bool} (he : PE X o ta) (c : Cls X.K C) (G : HasMD X.prog X.w X.K X.mg X.base C k m ps n kw d sp) (hr : Room k X.A) (ha : PA X (e :: es) t) (hkw : PK X kws tk)
    (hall : (backToKw pos (keywordEach kws X.env)).all (·.1.isSome) = true := by rfl) (hks : (backToKw pos (keywordEach kws X.env)).filterMap (·.1) = [kw] := by rfl)
    (hst : starEach (e :: es) X.env = (false, eval e X.env) :: starEach es X.env := by rfl)
    (hpl : ((backTo pos (starEach (e :: es) X.env)).any (·.1) || (backToKw pos (keywordEach kws X.env)).any (·.1.isNone)) = false := by rfl)
    (ht : eval (.Call (.Attribute o m apos) (e :: es) kws pos) X.env = (do
      let ov ← eval o X.env
      standAt apos.atName
      let (f, first) ← holding [ov] (getMethod ov m pl)
      callWith pos f first (backTo pos (starEach (e :: es) X.env)) (backToKw pos (keywordEach kws X.env))) := by rfl) :
    PE X (.Call (.Attribute o m apos) (e :: es) kws pos) (tMethN C m n 1 sp (fun vs zs => vs ++ zs) E0 ta t tk) := by
  obtain ⟨f, fd, hm, _, _, hb, F⟩ := G
  refine ⟨fun pins s σ H Q I h => ?_⟩
  refine PySem.W.methodCall_KW (pl := pl) (thn (he.run pins s σ H _ I h) fun u s1 ⟨x, H1, I1, rx, a, dx, fs, ex, ea, l, q⟩ => ?_) ht
  subst ex
  obtain rfl : u = Value.ref a := rx
  refine getmeth_ok I1 ea c hm l ?_
  refine PySem.W.callWith_KW (first := [.ref a]) (h₀ := X.base) I.ok.mod.kin hm.kp hall (thn (ha.run pos pins s1 σ H1 _ I1 q) fun us s2 ⟨vs, H2, I2, r, q2⟩ => ?_) hpl hst
  refine thn (hkw.run pos pins s2 σ H2 _ I2 q2) fun ws s3 ⟨zs, H3, I3, rz, l1, l2, q3⟩ => ⟨I3.kIn, ?_⟩
  rw [hks]
  exact run_fnN (us := .ref a :: us) (vs := .ref a :: vs) (ks := [kw]) F hr hb pass0 I3 (.cons rfl r) rz l1 l2 q3
theorem call_lenO (G : HasM X.prog X.w X.K X.mg X.base C k "__len__" ["self"] sp) (hr : Room (k + 1) X.A) :
    CallR X (.builtin "len") (fun xs H Q => ∃ (a dx : Addr) (fs : List (Str × V)), xs = [.ref a] ∧ H a = some (.ins C dx fs) ∧ sp [.ref a] H (fun v H' => ∃ j : Nat, v = .int j ∧ (j : Int) < 2 ^ 62 ∧ Q (.int j) H') E0) := by
  intro pins s σ H xs us Q I r h
  obtain ⟨f, fd, hm, hb, F⟩ := G
  obtain ⟨a, dx, fs, rfl, ha, q⟩ := h
  obtain ⟨u, rfl, ru⟩ := vals1 r
  cases ru
  obtain ⟨mA, J, _⟩ := ins_get I.hok ha
  obtain ⟨od, J, _⟩ := J.look
  obtain ⟨m, hF⟩ := I.fr
  refine PySem.W.len_K hF I.ok.mod.kin J hm.at_ hm.fn ?_
  have e0 : Env0 X.prog X.w X.K X.mg X.base X.A.in1 X.stack s H := by
    have e := I.env0
    exact ⟨e.frames, e.mod, e.bs, e.bsz, e.funs, e.frf, e.hok, e.bare⟩
  have hl := F.len _ _ _ _ q
  refine wpAny_call (codeAny_mono (F.run X.A.in1 X.stack s H ⟨[.ref a], []⟩ [.ref a] [.ref a] _ E0 hr.in1 e0 (by
    have := hb s [.ref a] I.kIn (by simpa using hl)
    simpa using this) (.cons rfl .nil) q) fun r s' hq => ?_)
  cases r with
  | error e => exact pass0 pins σ H s e s' I hq
  | ok fl =>
    cases fl with
    | ret w =>
      obtain ⟨z, H', I', rz, j, ez, l2, q2⟩ := I.after hq
      subst ez
      obtain ⟨tk, rfl⟩ := rz
      refine ⟨⟨?_, ?_⟩, .int j, H', I'.tok _, ⟨_, rfl⟩, q2⟩
      · omega
      · omega
    | next => exact False.elim hq
    | brk => exact False.elim hq
    | cont => exact False.elim hq
end
end UP

set_option Elab.async false
set_option linter.all false
set_option maxRecDepth 100000
set_option maxHeartbeats 4000000
set_option pp.maxSteps 300
namespace UP
open PySem PySem.Spec PyProof.Rows L2
/-- a list of operations -/
def Opl (H : Hp) (a : Addr) (ops : List Op) : Prop := ∃ xs, H a = some (.lst xs) ∧ Paired (OpV H) xs ops
theorem Opl.tk {H H' : Hp} {a : Addr} {R : List Op} (k : Tk H H') (c : ∀ o, H a = some o → H' a = some o) (h : Opl H a R) : Opl H' a R := by
  obtain ⟨xs, e, p⟩ := h
  exact ⟨xs, c _ e, Paired.imp (fun _ _ z => z.tk k) p⟩
theorem Opl.same {H H' : Hp} {a : Addr} {R : List Op} (s : Same H H') (h : Opl H a R) : Opl H' a R := h.tk (stk s) (fun o e => s _ _ e)
section
variable {P : Program} {w : World} {K : PySem.W.Frag} {mg : Str → Option Value} {base : Heap} {C : Addr}
/-! Station.__len__: slots 0:self -/
abbrev s_Station___len__ : Stmt := inClass (topS 42) 2
theorem sc_Station___len__ : FnScope ["self"] ["self"] (defScope s_Station___len__) := ⟨rfl, rfl, rfl, by decide +kernel, rfl, by decide +kernel, by decide +kernel⟩
def sp_Station_len (C : Addr) : Sp := fun vs H Q _ => ∃ (p ap ar ab : Addr) (S : Sta) (ops : List Op), vs = [.ref p] ∧ Stn C H p ap ar ab S ops ∧ Q (.int ops.length) H
theorem ok_Station___len__ (D : DfM K C "__len__" "Station.__len__" s_Station___len__) (T : Tx mg) (TS : ClsT K mg C) : HasM P w K mg base C 1 "__len__" ["self"] (sp_Station_len C) := by
  refine hasM_of D sc_Station___len__ (fun _ _ _ _ _ _ us hl => match us, hl with | [_], _ => rfl) (fun vs H Q E h => ?_) (fun f cdv A outer s₀ H vs Q E hr h => ?_)
  · obtain ⟨_, _, _, _, _, _, rfl, _⟩ := h
    rfl
  · obtain ⟨p, ap, ar, ab, S, ops, rfl, z, q⟩ := h
    obtain ⟨⟨dx, v, hp, hv⟩, _, _, ⟨xs, hx, hxp⟩, _⟩ := z
    rw [← Paired.len hxp] at q
    refine ⟨_, (pss_one (ps_ret (pe_callB call_len_seq (by rfl) T.n_len (by decide +kernel) (pa_cons (pe_fld (pv 0) rfl) pa_nil)))), ?_⟩
    exact ⟨_, rfl, p, C, dx, _, _, rfl, hp, TS.cl, TS.n6, fl6_past .., ap, xs, rfl, .inl (.of hx), q⟩
/-! Station.operations_done: slots 0:self 1:operation 2:before -/
abbrev s_Station_operations_done : Stmt := inClass (topS 42) 13
theorem sc_Station_operations_done : FnScope ["self", "operation", "before"] ["self"] (defScope s_Station_operations_done) := ⟨rfl, rfl, rfl, by decide +kernel, rfl, by decide +kernel, by decide +kernel⟩
def sp_Station_operations_done (C : Addr) : Sp := fun vs H Q _ => ∃ (p ap ar ab : Addr) (S : Sta) (ops : List Op), vs = [.ref p] ∧ Stn C H p ap ar ab S ops ∧ ops.length ≤ 50000 ∧ ∀ H' l, Same H H' → H l = none → Opl H' l ops → Q (.ref l) H'
theorem ok_Station_operations_done (D : DfM K C "operations_done" "Station.operations_done" s_Station_operations_done) (TS : ClsT K mg C) : HasM P w K mg base C 1 "operations_done" ["self"] (sp_Station_operations_done C) := by
  refine hasM_of D sc_Station_operations_done (fun _ _ _ _ _ _ us hl => match us, hl with | [_], _ => rfl) (fun vs H Q E h => ?_) (fun f cdv A outer s₀ H vs Q E hr h => ?_)
  · obtain ⟨_, _, _, _, _, _, rfl, _⟩ := h
    rfl
  · obtain ⟨p, ap, ar, ab, S, ops, rfl, z, lo, q⟩ := h
    obtain ⟨⟨dx, v, hp, hv⟩, _, _, ⟨xs, hx, hxp⟩, _⟩ := z
    have lx : xs.length = ops.length := Paired.len hxp
    refine ⟨_, (pss_one (ps_ret (pe_lc (own := [("operation", 1), ("before", 2)]) rfl sc_Station_operations_done.nd (pi_list (pe_fld (pv 0) rfl)) (blkOk_by (N := ["self", "operation", "before"]) (sc := defScope s_Station_operations_done) (by decide +kernel)) (fun _ _ _ _ _ => (pg_tupK (K := K) (n := 2) rfl rfl (pgs_cons (pg_name (i := 1) sc_Station_operations_done.nd rfl (by first | exact Or.inl rfl | exact Or.inr rfl)) (pgs_cons (pg_name (i := 2) sc_Station_operations_done.nd rfl (by first | exact Or.inl rfl | exact Or.inr rfl)) pgs_nil)))) (fun _ _ _ _ _ => pts_nil) (fun _ _ _ _ _ => (pv 1))))), ?_⟩
    refine ⟨_, rfl, p, C, dx, _, _, rfl, hp, TS.cl, TS.n6, fl6_past .., ap, rfl, ⟨xs, .of hx⟩, fun L nL => lc_list (K := K) (a := ap) (xs := xs) (fun i H' => Same H H' ∧ ∃ ys, H' L = some (.lst ys) ∧ Paired (OpV H') ys (ops.take i)) ⟨same_upd nL, [], upd_same, .nil⟩ (fun i H' _ hP => .of (hP.1 _ _ hx)) (fun i x H3 ex hP => ?_) (fun H3 hP => ?_)⟩
    · obtain ⟨s3, ys, hL, hy⟩ := hP
      obtain ⟨o, er, hr1⟩ := Paired.at hxp ex
      obtain ⟨t, u, b, rfl, ht, hu⟩ := PastV.tk (stk s3) hr1
      have li : i < xs.length := (List.getElem?_eq_some_iff.mp ex).1
      refine ⟨t, _, rfl, .of ht, rfl, _, _, rfl, _, _, rfl, rfl, rfl, yesT ?_⟩
      have tk := tk_but hL (by intro _ y; cases y) (but_upd (o := .lst (ys ++ [u])))
      refine ⟨_, rfl, _, hL, ?_, same_grow nL s3, _, upd_same, ?_⟩
      · have := Paired.len hy
        rw [List.length_take] at this
        exact small (by omega)
      · rw [take_snoc er]
        exact Paired.app (Paired.imp (fun _ _ z => z.tk tk) hy) (.cons (hu.tk tk) .nil)
    obtain ⟨s3, ys, hL, hy⟩ := hP
    rw [lx, List.take_length] at hy
    exact q _ L s3 nL ⟨ys, hL, hy⟩
/-! _law_apply: slots 0:some 1:call 2:way -/
abbrev s_law_apply : Stmt := topS 54
theorem sc_law_apply : FnScope ["some", "call", "way"] ["some", "call", "way"] (defScope s_law_apply) := ⟨rfl, rfl, rfl, by decide +kernel, rfl, by decide +kernel, by decide +kernel⟩
end
end UP

set_option Elab.async false
set_option linter.all false
set_option maxRecDepth 100000
set_option maxHeartbeats 4000000
set_option pp.maxSteps 300
namespace UP
open PySem PySem.Spec PyProof.Rows L2
/-! ### small data -/
theorem nice_sint {i : Int} (h : i.natAbs < 2 ^ 20) : Nice 21 0 (.int i) := by
  have b := nice_int (i := i) (Nat.lt_of_lt_of_le h (by decide))
  have h3 : i.natAbs.log2 < 20 := by
    by_cases z : i.natAbs = 0
    · rw [z]
      decide
    · exact (Nat.log2_lt z).mpr h
  refine ⟨b.can, b.dep, b.sho, b.lea, ?_⟩
  rw [PyData.weight]
  split <;> omega
theorem nice_giv : Nice 8 0 (.str "give_up") := ⟨by decide +kernel, Nat.le_refl _, rfl, by decide +kernel, by decide +kernel⟩
theorem nice_arr : Nice 8 0 (.str "arrive") := nice_str (by decide +kernel)
def dKy : Key → PyData
  | .inl i => .int i
  | .inr k => .str k
def dOp (o : Op) : PyData := .tuple [.str o.1, dKy o.2.1, .int o.2.2]
/-- a small operation -/
def OpB (o : Op) : Prop := Nice 8 0 (.str o.1) ∧ Nice 21 0 (dKy o.2.1) ∧ o.2.2.natAbs < 2 ^ 20
theorem nice_op {o : Op} (h : OpB o) : Nice 66 1 (dOp o) := by
  have := nice_tup (w := 21) (n := 0) (ds := [.str o.1, dKy o.2.1, .int o.2.2]) fun d hd => by
    simp only [List.mem_cons, List.not_mem_nil, or_false] at hd
    rcases hd with e | e | e
    · rw [e]
      exact h.1.mono (by decide) (by decide)
    · rw [e]
      exact h.2.1
    · rw [e]
      exact nice_sint h.2.2
  exact this.mono (by show (21 + 1) * 3 ≤ 66; decide) (by decide)
theorem nice_ops {ops : List Op} (h : ∀ o ∈ ops, OpB o) (l : ops.length ≤ 300) : Nice 20100 2 (.list (ops.map dOp)) := by
  have := nice_list (w := 66) (n := 1) (ds := ops.map dOp) fun d hd => by
    obtain ⟨o, ho, rfl⟩ := List.mem_map.mp hd
    exact nice_op (h o ho)
  exact this.mono (by rw [List.length_map]; omega) (by decide)
theorem nice_spv {R : List Rg} (h : ∀ r ∈ R, r.1.natAbs < 2 ^ 20 ∧ r.2.natAbs < 2 ^ 20) (l : R.length ≤ 300) : Nice 13500 2 (.list (R.map dPv)) := by
  have := nice_list (w := 44) (n := 1) (ds := R.map dPv) fun d hd => by
    obtain ⟨r, hr, rfl⟩ := List.mem_map.mp hd
    have := nice_tup (w := 21) (n := 0) (ds := [.int r.1, .int r.2]) fun d hd => by
      rcases List.mem_cons.mp hd with e | e
      · rw [e]
        exact nice_sint (h r hr).1
      · rw [List.mem_singleton.mp e]
        exact nice_sint (h r hr).2
    exact this.mono (by show (21 + 1) * 2 ≤ 44; decide) (by decide)
  exact this.mono (by rw [List.length_map]; omega) (by decide)
theorem dp_ky {K : PySem.W.Frag} {H : Hp} (k : Key) : Dp K H (kV k) (dKy k) := by
  cases k with
  | inl i => exact .int _
  | inr s => exact .str _
theorem dp_op {K : PySem.W.Frag} {H : Hp} {v : V} {o : Op} (h : OpV H v o) : Dp K H v (dOp o) := by
  obtain ⟨t, rfl, ht⟩ := h
  exact .tup (.of ht) (.cons (.str _) (.cons (dp_ky _) (.cons (.int _) .nil)))
theorem dp_ops {K : PySem.W.Frag} {H : Hp} : ∀ {xs : List V} {os : List Op}, Paired (OpV H) xs os → DpAll K H xs (os.map dOp)
  | [], [], _ => .nil
  | _ :: _, _ :: _, .cons h t => .cons (dp_op h) (dp_ops t)
theorem nf_len : NotF "__len__" := ⟨by decide +kernel, by decide +kernel, by decide +kernel, by decide +kernel, by decide +kernel, by decide +kernel⟩
theorem nf_operations_done : NotF "operations_done" := ⟨by decide +kernel, by decide +kernel, by decide +kernel, by decide +kernel, by decide +kernel, by decide +kernel⟩
theorem g_atB {i : Nat} {v w : V} {σ : L2.St} {H : Hp} {k : L2.St → Hp → Prop} (e : v = w) (h : gName i w σ H k) : gName i v σ H k := by
  subst e
  exact h
section
variable {P : Program} {w : World} {K : PySem.W.Frag} {mg : Str → Option Value} {base : Heap} {C : Addr}
end
end UP

set_option Elab.async false
set_option linter.all false
set_option maxRecDepth 100000
set_option maxHeartbeats 4000000
set_option pp.maxSteps 300
namespace UP
open PySem PySem.Spec PyProof.Rows L2
/-! ### an attribute as one of several targets -/
def gFld (K : PySem.W.Frag) (ta : TE) (f : Str) : TG := fun y σ H Q => ta σ H fun x H2 => ∃ a C dx fs, x = .ref a ∧ H2 a = some (.ins C dx fs) ∧ Cls K C ∧ NoAttr K C f ∧ fs.length < 1000 ∧ Q σ (upd H2 a (.ins C dx (putF f y fs)))
theorem pg_fld {X : Cx} {o : Expr} {ta : TE} {f : Str} {pos : Pos} (ho : PE X o ta) : PG X (.Attribute o f pos) (gFld X.K ta f) := by
  refine ⟨fun pins s σ H v u Q I r h => ?_⟩
  rw [assign_Attribute]
  refine wpAny_bind (wpAny_holding (thn (ho.run pins s σ H _ I h) fun ov s1 ⟨x, H1, I1, rx, a, C, dx, fs, ex, ea, c, n, l, q⟩ => ?_))
  subst ex
  obtain rfl : ov = Value.ref a := rx
  refine wpAny_bind (wpAny_standAt (wpAny_bind (wpAny_holding (setattr_ok I1 ea c n l r fun s3 I3 => ?_))))
  exact wpAny_release ⟨σ, _, I3, q⟩
end UP

set_option Elab.async false
set_option linter.all false
set_option maxRecDepth 100000
set_option maxHeartbeats 4000000
set_option pp.maxSteps 300
namespace UP
open PySem PySem.Spec PyProof.Rows L2
/-! ### a station that keeps what it was before each operation -/
structure Ent where
  o : Op
  S : Sta
  ar : Addr
  ab : Addr
def EntV (H : Hp) (v : V) (e : Ent) : Prop := ∃ t u tb v', v = .ref t ∧ H t = some (.tup [u, .ref tb]) ∧ OpV H u e.o ∧ H tb = some (.tup [v', .ref e.ar, .int e.S.n, .int e.S.m, .ref e.ab]) ∧ StV H v' e.S.st ∧ Rngs H e.ar e.S.R ∧ Blks H e.ab e.S.B
theorem EntV.keep {H H' : Hp} {v : V} {e : Ent} (k : Tk H H') (c1 : ∀ o, H e.ar = some o → H' e.ar = some o) (c2 : ∀ o, H e.ab = some o → H' e.ab = some o) (h : EntV H v e) : EntV H' v e := by
  obtain ⟨t, u, tb, v', rfl, ht, ho, hb, hv, hr, hl⟩ := h
  exact ⟨t, u, tb, v', rfl, k _ _ ht, ho.tk k, k _ _ hb, hv.tk k, hr.tk k c1, hl.tk k c2⟩
theorem EntV.past {H : Hp} {v : V} {e : Ent} (h : EntV H v e) : PastV H v e.o := by
  obtain ⟨t, u, tb, v', rfl, ht, ho, _⟩ := h
  exact ⟨t, u, .ref tb, rfl, ht, ho⟩
theorem ents_keep {H H' : Hp} (k : Tk H H') : ∀ {xs : List V} {es : List Ent}, (∀ e ∈ es, (∀ o, H e.ar = some o → H' e.ar = some o) ∧ ∀ o, H e.ab = some o → H' e.ab = some o) → Paired (EntV H) xs es → Paired (EntV H') xs es
  | [], [], _, _ => .nil
  | _ :: _, e :: _, c, .cons h t => .cons (h.keep k (c e (List.mem_cons_self ..)).1 (c e (List.mem_cons_self ..)).2) (ents_keep k (fun x hx => c x (List.mem_cons_of_mem _ hx)) t)
theorem ents_past {H : Hp} : ∀ {xs : List V} {es : List Ent}, Paired (EntV H) xs es → Paired (PastV H) xs (es.map (·.o))
  | [], [], _ => .nil
  | _ :: _, _ :: _, .cons h t => .cons h.past (ents_past t)
structure StnH (C : Addr) (H : Hp) (p ap ar ab : Addr) (S : Sta) (es : List Ent) : Prop where
  ob : ∃ dx v, H p = some (.ins C dx (fl6 v (.ref ar) (.int S.n) (.int S.m) (.ref ab) (.ref ap))) ∧ StV H v S.st
  rg : Rngs H ar S.R
  bl : Blks H ab S.B
  ps : ∃ xs, H ap = some (.lst xs) ∧ Paired (EntV H) xs es
  n1 : ap ≠ ar
  n2 : ap ≠ ab
  ne : ∀ e ∈ es, ap ≠ e.ar ∧ ap ≠ e.ab
theorem StnH.stn {C : Addr} {H : Hp} {p ap ar ab : Addr} {S : Sta} {es : List Ent} (z : StnH C H p ap ar ab S es) : Stn C H p ap ar ab S (es.map (·.o)) := by
  obtain ⟨xs, h, hp⟩ := z.ps
  exact ⟨z.ob, z.rg, z.bl, ⟨xs, h, ents_past hp⟩, z.n1, z.n2⟩
theorem StnH.keep {C : Addr} {H H' : Hp} {p ap ar ab : Addr} {S : Sta} {es : List Ent} (z : StnH C H p ap ar ab S es) (k : Tk H H') (k1 : ∀ o, H p = some o → H' p = some o) (k2 : ∀ o, H ap = some o → H' ap = some o) (k3 : ∀ o, H ar = some o → H' ar = some o) (k4 : ∀ o, H ab = some o → H' ab = some o)
    (k5 : ∀ e ∈ es, (∀ o, H e.ar = some o → H' e.ar = some o) ∧ ∀ o, H e.ab = some o → H' e.ab = some o) : StnH C H' p ap ar ab S es := by
  obtain ⟨⟨dx, v, h1, h2⟩, h3, h4, ⟨xs, h5, h5p⟩, h6, h7, h8⟩ := z
  exact ⟨⟨dx, v, k1 _ h1, h2.tk k⟩, h3.tk k k3, h4.tk k k4, ⟨xs, k2 _ h5, ents_keep k k5 h5p⟩, h6, h7, h8⟩
end UP

set_option Elab.async false
set_option linter.all false
set_option maxRecDepth 100000
set_option maxHeartbeats 4000000
set_option pp.maxSteps 300
namespace UP
open PySem PySem.Spec PyProof.Rows L2
section
variable {P : Program} {w : World} {K : PySem.W.Frag} {mg : Str → Option Value} {base : Heap} {C : Addr}

def sp_Station_remember (C : Addr) : Sp := fun vs H Q _ => ∃ (p ap ar ab : Addr) (S : Sta) (es : List Ent) (u : V) (o : Op), vs = [.ref p, u] ∧ StnH C H p ap ar ab S es ∧ OpV H u o ∧ es.length ≤ 100000 ∧ ∀ H', But ap H H' → StnH C H' p ap ar ab S (es ++ [⟨o, S, ar, ab⟩]) → Q .non H'
theorem ok_Station_remember (D : DfM K C "remember" "Station.remember" s_Station_remember) (TS : ClsT K mg C) : HasM P w K mg base C 1 "remember" ["self", "operation"] (sp_Station_remember C) := by
  refine hasM_of D sc_Station_remember (fun _ _ _ _ _ _ us hl => match us, hl with | [_, _], _ => rfl) (fun vs H Q E h => ?_) (fun f cdv A outer s₀ H vs Q E hr h => ?_)
  · obtain ⟨_, _, _, _, _, _, _, _, rfl, _⟩ := h
    rfl
  · obtain ⟨p, ap, ar, ab, S, es, u, o, rfl, z, hu, lo, q⟩ := h
    obtain ⟨⟨dx, v, hp, hv⟩, hR, hB, ⟨xs, hx, hxs⟩, n1, n2, ne⟩ := id z
    have lx : xs.length = es.length := Paired.len hxs
    refine ⟨_, (pss_cons (ps_set (i := 2) sc_Station_remember.nd rfl (by first | exact Or.inl rfl | exact Or.inr rfl) (pe_tup (pa_cons (pe_fld (pv 0) rfl) (pa_cons (pe_fld (pv 0) rfl) (pa_cons (pe_fld (pv 0) rfl) (pa_cons (pe_fld (pv 0) rfl) (pa_cons (pe_fld (pv 0) rfl) pa_nil)))))))
    (pss_one (ps_expr (pe_bm PySem.F.plainAttrs_list PySem.F.slot_list_append PySem.F.type_list_append mt_append (pe_fld (pv 0) rfl) (pa_cons (pe_tup (pa_cons (pv 1) (pa_cons (pv 2) pa_nil))) pa_nil))))), ?_⟩
    refine ⟨_, rfl, p, C, dx, _, _, rfl, hp, TS.cl, TS.n1, fl6_state .., _, rfl, p, C, dx, _, _, rfl, hp, TS.cl, TS.n2, fl6_ranges .., _, rfl, p, C, dx, _, _, rfl, hp, TS.cl, TS.n3, fl6_arrived .., _, rfl, p, C, dx, _, _, rfl, hp, TS.cl, TS.n4, fl6_paired .., _, rfl, p, C, dx, _, _, rfl, hp, TS.cl, TS.n5, fl6_blocks .., (by show 5 ≤ sizeLine; decide), fun t nt => ?_⟩
    have s1 := same_upd (o := .tup [v, .ref ar, .int S.n, .int S.m, .ref ab]) nt
    have ht : (upd H t (.tup [v, .ref ar, .int S.n, .int S.m, .ref ab])) t = some (.tup [v, .ref ar, .int S.n, .int S.m, .ref ab]) := upd_same
    generalize upd H t (.tup [v, .ref ar, .int S.n, .int S.m, .ref ab]) = H1 at *
    refine ⟨_, rfl, p, C, dx, _, _, rfl, s1 _ _ hp, TS.cl, TS.n6, fl6_past .., .inl ⟨rfl, _, SqL.of (s1 _ _ hx)⟩, _, rfl, _, rfl, (by show 2 ≤ sizeLine; decide), fun t2 nt2 => ?_⟩
    have s12 := same_upd (o := .tup [u, .ref t]) nt2
    have s2 := s1.trans s12
    have ht2 : (upd H1 t2 (.tup [u, .ref t])) t2 = some (.tup [u, .ref t]) := upd_same
    refine ⟨ap, _, _, rfl, rfl, s2 _ _ hx, small (by omega), ?_⟩
    generalize upd H1 t2 (.tup [u, .ref t]) = H2 at *
    have b3 : But ap H2 (upd H2 ap (.lst (xs ++ [.ref t2]))) := but_upd
    have hx3 : (upd H2 ap (.lst (xs ++ [.ref t2]))) ap = some (.lst (xs ++ [.ref t2])) := upd_same
    generalize upd H2 ap (.lst (xs ++ [.ref t2])) = H3 at *
    have k3 := tk_but (s2 _ _ hx) (by intro _ z; cases z) b3
    have kk : Tk H H3 := (stk s2).trans k3
    have at3 : ∀ {x : Addr}, ap ≠ x → ∀ o, H x = some o → H3 x = some o := fun {x} n o e => b3 _ _ n.symm (s2 _ _ e)
    have pa : p ≠ ap := ne_of hp hx (by intro z; cases z)
    refine q _ ((Same.but s2).trans b3) ⟨⟨dx, v, b3 _ _ pa (s2 _ _ hp), hv.tk kk⟩, hR.tk kk (at3 n1), hB.tk kk (at3 n2), ⟨_, hx3, Paired.app (ents_keep kk (fun e he => ⟨at3 (ne e he).1, at3 (ne e he).2⟩) hxs) (.cons ⟨t2, u, t, v, rfl, k3 _ _ ht2, hu.tk kk, k3 _ _ (s12 _ _ ht), hv.tk kk, hR.tk kk (at3 n1), hB.tk kk (at3 n2)⟩ .nil)⟩, n1, n2, fun e he => ?_⟩
    rcases List.mem_append.mp he with h | h
    · exact ne e h
    · rw [List.mem_singleton.mp h]
      exact ⟨n1, n2⟩
end
end UP

set_option Elab.async false
set_option linter.all false
set_option maxRecDepth 100000
set_option maxHeartbeats 4000000
set_option pp.maxSteps 300
namespace UP
open PySem PySem.Spec PyProof.Rows L2
/-- the list of what was -/
def PstH (H : Hp) (a : Addr) (es : List Ent) : Prop := ∃ xs, H a = some (.lst xs) ∧ Paired (EntV H) xs es
theorem ents_lst {H : Hp} : ∀ {xs : List V} {es : List Ent}, Paired (EntV H) xs es → ∀ e ∈ es, (∃ l, H e.ar = some (.lst l)) ∧ ∃ l, H e.ab = some (.lst l)
  | [], [], _, _, h => by cases h
  | _ :: _, e :: t, .cons h1 h2, x, hx => by
    rcases List.mem_cons.mp hx with z | z
    · rw [z]
      obtain ⟨_, _, _, _, _, _, _, _, _, ⟨l1, hr, _⟩, l2, hl, _⟩ := h1
      exact ⟨⟨l1, hr⟩, l2, hl⟩
    · exact ents_lst h2 x z
theorem PstH.same {H H' : Hp} {a : Addr} {es : List Ent} (h : PstH H a es) (s : Same H H') : PstH H' a es := by
  obtain ⟨xs, hx, p⟩ := h
  exact ⟨xs, s _ _ hx, ents_keep (stk s) (fun e _ => ⟨fun o z => s _ _ z, fun o z => s _ _ z⟩) p⟩
theorem PstH.ins {H H' : Hp} {a p C dx : Addr} {fs : List (Str × V)} {es : List Ent} (h : PstH H a es) (hp : H p = some (.ins C dx fs)) (b : But p H H') : PstH H' a es := by
  obtain ⟨xs, hx, px⟩ := h
  refine ⟨xs, b _ _ (ne_of hx hp (by intro z; cases z)) hx, ents_keep (tk_but hp (by intro _ z; cases z) b) (fun e he => ?_) px⟩
  obtain ⟨⟨l1, h1⟩, l2, h2⟩ := ents_lst px e he
  exact ⟨b.at (ne_of h1 hp (by intro z; cases z)), b.at (ne_of h2 hp (by intro z; cases z))⟩
theorem StnH.same {C : Addr} {H H' : Hp} {p ap ar ab : Addr} {S : Sta} {es : List Ent} (z : StnH C H p ap ar ab S es) (s : Same H H') : StnH C H' p ap ar ab S es :=
  z.keep (stk s) (fun _ e => s _ _ e) (fun _ e => s _ _ e) (fun _ e => s _ _ e) (fun _ e => s _ _ e) (fun e _ => ⟨fun _ y => s _ _ y, fun _ y => s _ _ y⟩)
theorem put_past {v st ra ar pa bl ps : V} : putF "past" v (fl6 st ra ar pa bl ps) = fl6 st ra ar pa bl v := by
  rw [fl6_eq, fl6_eq, putF_other (by decide +kernel), putF_other (by decide +kernel), putF_other (by decide +kernel), putF_other (by decide +kernel), putF_other (by decide +kernel), putF_hit]
section
variable {P : Program} {w : World} {K : PySem.W.Frag} {mg : Str → Option Value} {base : Heap} {C : Addr}
def sp_Station_arrive (C : Addr) : Sp := fun vs H Q _ => ∃ (p ap ar ab : Addr) (S : Sta) (es : List Ent) (k : Str) (c : Int), vs = [.ref p, .str k, .int c] ∧ StnH C H p ap ar ab S es ∧ KindOk k ∧ 1 ≤ c ∧ c ≤ 1000000000000000000000000000000 ∧ S.R.length ≤ 50000 ∧ S.B.length ≤ 500000 ∧ es.length ≤ 50000 ∧
  ∀ H' ar' ab', Fr p ap H H' → H ar' = none → H ab' = none → StnH C H' p ap ar' ab' (arrS S k c) (es ++ [⟨(("arrive" : Str), .inr k, c), S, ar, ab⟩]) → Q (.int (leavR S.st k c)) H'
theorem ok_Station_arrive (D : DfMD K C "arrive" "Station.arrive" s_Station_arrive (.int 1)) (T : Tx mg) (TS : ClsT K mg C) (G_check_kind : Has P w K mg base 2 "check_kind" ["kind"] sp_check_kind) (G_is_within : Has P w K mg base 2 "is_within" ["value", "low", "high"] sp_is_within)
    (G_Station_remember : HasM P w K mg base C 1 "remember" ["self", "operation"] (sp_Station_remember C)) (G_leaving_number : Has P w K mg base 1 "leaving_number" ["state", "kind", "count"] sp_leaving_number) (G_blocks_of_run : Has P w K mg base 1 "blocks_of_run" ["ranges", "start", "leaving"] sp_blocks_of_run)
    (G_ranges_after_run : Has P w K mg base 2 "ranges_after_run" ["ranges", "start", "count", "leaving"] sp_ranges_after_run) (G_state_after_run : Has P w K mg base 2 "state_after_run" ["state", "kind", "count"] sp_state_after_run) :
    HasMD P w K mg base C 3 "arrive" ["self", "kind", "count"] 2 "count" (.int 1) (sp_Station_arrive C) := by
  refine hasM_ofD D sc_Station_arrive rfl (fun _ _ _ _ _ _ _ us its hl h1 => match us, hl, its, h1 with | [_, _, _], _, [_], _ => ⟨_, rfl, rfl⟩) (fun _ _ _ _ _ _ _ us its hl h1 => match us, hl, its, h1 with | [_, _], _, [_], _ => ⟨_, rfl, rfl⟩) (fun _ _ _ _ _ _ _ us its v hl h1 => match us, hl, its, h1 with | [_, _], _, [_], _ => ⟨_, rfl, rfl⟩) (fun vs H Q E h => ?_) (fun f cdv A outer s₀ H vs Q E hr h => ?_)
  · obtain ⟨_, _, _, _, _, _, _, _, rfl, _⟩ := h
    rfl
  · obtain ⟨p, ap, ar, ab, S, es, k, c, rfl, z, kk, c1, c2, lR, lB, lO, q⟩ := h
    refine ⟨_, (pss_cons (ps_expr (pe_callH G_check_kind (hr.mono (by omega)) (by rfl) (pa_cons (pv 1) pa_nil)))
    (pss_cons (ps_if (pt_not (pt_val (pe_callH G_is_within (hr.mono (by omega)) (by rfl) (pa_cons (pv 2) (pa_cons pe_int (pa_cons (pe_glI T.c_MAX_COUNT (by rfl)) pa_nil)))))) (pss_one ps_never) pss_nil)
    (pss_cons (ps_expr (pe_methO (pv 0) TS.cl G_Station_remember (hr.mono (by omega)) (pa_cons (pe_tup (pa_cons pe_str (pa_cons (pv 1) (pa_cons (pv 2) pa_nil)))) pa_nil)))
    (pss_cons (ps_set (i := 3) sc_Station_arrive.nd rfl (by first | exact Or.inl rfl | exact Or.inr rfl) (pe_callH G_leaving_number (hr.mono (by omega)) (by rfl) (pa_cons (pe_fld (pv 0) rfl) (pa_cons (pv 1) (pa_cons (pv 2) pa_nil)))))
    (pss_cons (ps_fld (pv 0) (pe_op op_cat (pe_fld (pv 0) rfl) (pe_callH G_blocks_of_run (hr.mono (by omega)) (by rfl) (pa_cons (pe_fld (pv 0) rfl) (pa_cons (pe_fld (pv 0) rfl) (pa_cons (pv 3) pa_nil))))) rfl)
    (pss_cons (ps_fld (pv 0) (pe_callH G_ranges_after_run (hr.mono (by omega)) (by rfl) (pa_cons (pe_fld (pv 0) rfl) (pa_cons (pe_fld (pv 0) rfl) (pa_cons (pv 2) (pa_cons (pv 3) pa_nil))))) rfl)
    (pss_cons (ps_fld (pv 0) (pe_callH G_state_after_run (hr.mono (by omega)) (by rfl) (pa_cons (pe_fld (pv 0) rfl) (pa_cons (pv 1) (pa_cons (pv 2) pa_nil)))) rfl)
    (pss_cons (ps_fldaug (pv 0) (pv 2) in_add)
    (pss_cons (ps_fldaug (pv 0) (pv 3) in_add)
    (pss_one (ps_ret (pv 3)))))))))))), ?_⟩
    refine ⟨_, rfl, k, rfl, kk, fun H1 s1 => ?_⟩
    refine ⟨_, rfl, c, 1, _, rfl, _, rfl, iteN ?_ ?_⟩
    · rw [decide_eq_true ⟨c1, c2⟩]
      rfl
    have z1 := z.same s1
    obtain ⟨⟨dx, v, hp, hv⟩, hR, hB, _, _, _, _⟩ := id z1
    refine ⟨_, rfl, p, dx, _, rfl, hp, fl6_no nf_remember .., _, rfl, _, rfl, (by show 3 ≤ sizeLine; decide), fun t nt => ?_⟩
    have s2 := same_upd (o := .tup [.str "arrive", .str k, .int c]) nt
    refine ⟨p, ap, ar, ab, S, es, .ref t, (("arrive" : Str), .inr k, c), rfl, z1.same s2, ⟨t, rfl, upd_same⟩, by omega, fun H3 b3 z3 => ?_⟩
    have F3 : Fr p ap H H3 := (Fr.of s1).trans ((Fr.of s2).trans (Fr.but2 b3))
    clear z1 hp hv hR hB s2 nt b3 s1
    obtain ⟨⟨dx, v, hp, hv⟩, hR, hB, hP, n1, n2, ne3⟩ := id z3
    replace hP : PstH H3 ap _ := hP
    -- leaving
    refine ⟨_, rfl, p, C, dx, _, _, rfl, hp, TS.cl, TS.n1, fl6_state .., _, rfl, _, rfl, v, S.st, k, c, rfl, hv, ?_⟩
    -- blocks
    obtain ⟨bs, hbs, hbp⟩ := id hB
    have lb : bs.length = S.B.length := Paired.len hbp
    refine ⟨_, rfl, p, C, dx, _, _, rfl, hp, TS.cl, TS.n5, fl6_blocks .., _, rfl, p, C, dx, _, _, rfl, hp, TS.cl, TS.n2, fl6_ranges .., _, rfl, p, C, dx, _, _, rfl, hp, TS.cl, TS.n3, fl6_arrived .., _, rfl, ar, S.R, S.n, _, rfl, hR, by omega, fun H4 a4 s4 n4 ⟨b4, h4, h4p⟩ => ?_⟩
    have l4 : b4.length ≤ 50000 := by
      rw [Paired.len h4p]
      exact Nat.le_trans (brR_len _ _ _) lR
    refine ⟨ab, a4, bs, b4, rfl, rfl, s4 _ _ hbs, h4, Nat.le_of_lt (small (by omega)), fun ab' nb => ?_⟩
    have s5 := same_upd (o := .lst (bs ++ b4)) nb
    have hb5 : (upd H4 ab' (.lst (bs ++ b4))) ab' = some (.lst (bs ++ b4)) := upd_same
    have hbp5 : Paired (BV (upd H4 ab' (.lst (bs ++ b4)))) (bs ++ b4) (S.B ++ brR S.R S.n (leavR S.st k c)) := Paired.app (bvs_same (s4.trans s5) hbp) (bvs_same s5 h4p)
    generalize upd H4 ab' (.lst (bs ++ b4)) = H5 at *
    have s45 := s4.trans s5
    have nb3 : H3 ab' = none := s4.free nb
    have pab : ab' ≠ p := (ne_of_none (s4 _ _ hp) nb).symm
    refine ⟨_, rfl, p, C, dx, _, rfl, s45 _ _ hp, TS.cl, TS.n5, fl6_len .., ?_⟩
    rw [put_blocks]
    have hp6 : (upd H5 p (.ins C dx (fl6 v (.ref ar) (.int S.n) (.int S.m) (.ref ab') (.ref ap)))) p = some (.ins C dx (fl6 v (.ref ar) (.int S.n) (.int S.m) (.ref ab') (.ref ap))) := upd_same
    have b6 : But p H5 (upd H5 p (.ins C dx (fl6 v (.ref ar) (.int S.n) (.int S.m) (.ref ab') (.ref ap)))) := but_upd
    generalize upd H5 p (.ins C dx (fl6 v (.ref ar) (.int S.n) (.int S.m) (.ref ab') (.ref ap))) = H6 at *
    have k6 := tk_but (s45 _ _ hp) (by intro _ y; cases y) b6
    have pa : ap ≠ p := by
      obtain ⟨xs, e, _⟩ := hP
      exact ne_of e hp (by intro y; cases y)
    have pr : ar ≠ p := by
      obtain ⟨xs, e, _⟩ := hR
      exact ne_of e hp (by intro y; cases y)
    have hR6 := (hR.same s45).tk k6 (b6.at pr)
    have hB6 : Blks H6 ab' (S.B ++ brR S.R S.n (leavR S.st k c)) := Blks.tk k6 (b6.at pab) ⟨_, hb5, hbp5⟩
    have hP6 := (hP.same s45).ins (s45 _ _ hp) b6
    have hv6 := (hv.same s45).tk k6
    have F6 : Fr p ap H3 H6 := (Fr.of s45).trans (Fr.but1 b6)
    clear k6 b6 hbp5 hb5 s5 s45 h4p h4 s4 n4 l4 hbp hbs z3
    -- ranges
    refine ⟨_, rfl, p, C, dx, _, _, rfl, hp6, TS.cl, TS.n2, fl6_ranges .., _, rfl, p, C, dx, _, _, rfl, hp6, TS.cl, TS.n3, fl6_arrived .., _, rfl, _, rfl, ar, S.R, S.n, c, _, rfl, hR6, by omega, fun H7 ar' s7 nr h7 => ?_⟩
    have pr' : ar' ≠ p := (ne_of_none hp6 nr).symm
    refine ⟨_, rfl, p, C, dx, _, rfl, s7 _ _ hp6, TS.cl, TS.n2, fl6_len .., ?_⟩
    rw [put_ranges]
    have hp8 : (upd H7 p (.ins C dx (fl6 v (.ref ar') (.int S.n) (.int S.m) (.ref ab') (.ref ap)))) p = some (.ins C dx (fl6 v (.ref ar') (.int S.n) (.int S.m) (.ref ab') (.ref ap))) := upd_same
    have b8 : But p H7 (upd H7 p (.ins C dx (fl6 v (.ref ar') (.int S.n) (.int S.m) (.ref ab') (.ref ap)))) := but_upd
    generalize upd H7 p (.ins C dx (fl6 v (.ref ar') (.int S.n) (.int S.m) (.ref ab') (.ref ap))) = H8 at *
    have k8 := tk_but (s7 _ _ hp6) (by intro _ y; cases y) b8
    have hR8 := h7.tk k8 (b8.at pr')
    have hB8 := (hB6.same s7).tk k8 (b8.at pab)
    have hP8 := (hP6.same s7).ins (s7 _ _ hp6) b8
    have hv8 := (hv6.same s7).tk k8
    have F8 : Fr p ap H6 H8 := (Fr.of s7).trans (Fr.but1 b8)
    clear k8 b8 s7 h7
    -- state
    refine ⟨_, rfl, p, C, dx, _, _, rfl, hp8, TS.cl, TS.n1, fl6_state .., _, rfl, _, rfl, v, S.st, k, c, rfl, hv8, c1, fun H9 v' s9 h9 => ?_⟩
    refine ⟨_, rfl, p, C, dx, _, rfl, s9 _ _ hp8, TS.cl, TS.n1, fl6_len .., ?_⟩
    rw [put_state]
    have hp10 : (upd H9 p (.ins C dx (fl6 v' (.ref ar') (.int S.n) (.int S.m) (.ref ab') (.ref ap)))) p = some (.ins C dx (fl6 v' (.ref ar') (.int S.n) (.int S.m) (.ref ab') (.ref ap))) := upd_same
    have b10 : But p H9 (upd H9 p (.ins C dx (fl6 v' (.ref ar') (.int S.n) (.int S.m) (.ref ab') (.ref ap)))) := but_upd
    generalize upd H9 p (.ins C dx (fl6 v' (.ref ar') (.int S.n) (.int S.m) (.ref ab') (.ref ap))) = H10 at *
    have k10 := tk_but (s9 _ _ hp8) (by intro _ y; cases y) b10
    have hR10 := (hR8.same s9).tk k10 (b10.at pr')
    have hB10 := (hB8.same s9).tk k10 (b10.at pab)
    have hP10 := (hP8.same s9).ins (s9 _ _ hp8) b10
    have hv10 := h9.tk k10
    have F10 : Fr p ap H8 H10 := (Fr.of s9).trans (Fr.but1 b10)
    clear k10 b10 s9 h9
    -- arrived, paired
    refine ⟨_, rfl, p, C, dx, _, _, rfl, hp10, TS.cl, TS.n3, fl6_arrived .., _, rfl, _, _, rfl, rfl, dx, _, hp10, fl6_len .., ?_⟩
    rw [put_arrived]
    refine ⟨_, rfl, p, C, dx, _, _, rfl, upd_same, TS.cl, TS.n4, fl6_paired .., _, rfl, _, _, rfl, rfl, dx, _, upd_same, fl6_len .., ?_⟩
    rw [put_paired, upd_upd]
    have b12 : But p H10 (upd H10 p (.ins C dx (fl6 v' (.ref ar') (.int (S.n + c)) (.int (S.m + leavR S.st k c)) (.ref ab') (.ref ap)))) := but_upd
    have k12 := tk_but hp10 (by intro _ y; cases y) b12
    have fr : ∀ {Ha Hb : Hp} {x : Addr}, Fr p ap Ha Hb → Hb x = none → x ≠ p → x ≠ ap → Ha x = none := fun {Ha Hb x} b e n m => by
      cases y : Ha x with
      | none => rfl
      | some o =>
        rw [b _ _ n m y] at e
        cases e
    have aab : ap ≠ ab' := by
      obtain ⟨xs, e, _⟩ := hP
      exact ne_of_none e nb3
    have aar : ap ≠ ar' := by
      obtain ⟨xs, e, _⟩ := hP6
      exact ne_of_none e nr
    refine ⟨_, rfl, q _ ar' ab' (F3.trans (F6.trans (F8.trans (F10.trans (Fr.but1 b12))))) (fr (F3.trans F6) nr pr' aar.symm) (fr F3 nb3 pab aab.symm) ⟨⟨dx, v', upd_same, hv10.tk k12⟩, hR10.tk k12 (b12.at pr'), hB10.tk k12 (b12.at pab), hP10.ins hp10 b12, aar, aab, ne3⟩⟩
def sp_Station_give_up (C : Addr) : Sp := fun vs H Q _ => ∃ (p ap ar ab : Addr) (S : Sta) (es : List Ent) (k : Str) (i c : Int) (z : Rg), vs = [.ref p, .int i, .int c] ∧ StnH C H p ap ar ab S es ∧ S.st = some (k, numR S.st) ∧ 0 ≤ i ∧ 1 ≤ c ∧ i + c ≤ numR S.st ∧ (wfR S.R i).head? = some z ∧ S.R.length ≤ 50000 ∧ es.length ≤ 50000 ∧
  ∀ H' ar', Fr p ap H H' → H ar' = none → StnH C H' p ap ar' ab (givS S i c k) (es ++ [⟨(("give_up" : Str), .inl i, c), S, ar, ab⟩]) → Q (.int z.1) H'
theorem ok_Station_give_up (D : DfMD K C "give_up" "Station.give_up" s_Station_give_up (.int 1)) (T : Tx mg) (TS : ClsT K mg C) (G_waiting_number : Has P w K mg base 1 "waiting_number" ["state"] sp_waiting_number) (G_is_within : Has P w K mg base 2 "is_within" ["value", "low", "high"] sp_is_within)
    (G_Station_remember : HasM P w K mg base C 1 "remember" ["self", "operation"] (sp_Station_remember C)) (G_without_first : Has P w K mg base 1 "without_first" ["ranges", "number"] sp_without_first) (G_only_first : Has P w K mg base 1 "only_first" ["ranges", "number"] sp_only_first) (G_state_with : Has P w K mg base 1 "state_with" ["kind", "number"] sp_state_with) :
    HasMD P w K mg base C 3 "give_up" ["self", "index", "count"] 2 "count" (.int 1) (sp_Station_give_up C) := by
  refine hasM_ofD D sc_Station_give_up rfl (fun _ _ _ _ _ _ _ us its hl h1 => match us, hl, its, h1 with | [_, _, _], _, [_], _ => ⟨_, rfl, rfl⟩) (fun _ _ _ _ _ _ _ us its hl h1 => match us, hl, its, h1 with | [_, _], _, [_], _ => ⟨_, rfl, rfl⟩) (fun _ _ _ _ _ _ _ us its v hl h1 => match us, hl, its, h1 with | [_, _], _, [_], _ => ⟨_, rfl, rfl⟩) (fun vs H Q E h => ?_) (fun f cdv A outer s₀ H vs Q E hr h => ?_)
  · obtain ⟨_, _, _, _, _, _, _, _, _, _, rfl, _⟩ := h
    rfl
  · obtain ⟨p, ap, ar, ab, S, es, k, i, c, zr, rfl, z, est, i0, c1, ic, ez, lR, lO, q⟩ := h
    obtain ⟨⟨dx, v, hp, hv⟩, hR, hB, hP, n1, n2, ne0⟩ := id z
    refine ⟨_, (pss_cons (ps_set (i := 3) sc_Station_give_up.nd rfl (by first | exact Or.inl rfl | exact Or.inr rfl) (pe_callH G_waiting_number (hr.mono (by omega)) (by rfl) (pa_cons (pe_fld (pv 0) rfl) pa_nil)))
    (pss_cons (ps_if (PW.pt (pw_or (pt_not (pt_val (pe_callH G_is_within (hr.mono (by omega)) (by rfl) (pa_cons (pv 1) (pa_cons pe_int (pa_cons (pe_op op_sub (pv 3) pe_int) pa_nil)))))) (pw_or1 (pt_not (pt_val (pe_callH G_is_within (hr.mono (by omega)) (by rfl) (pa_cons (pv 2) (pa_cons pe_int (pa_cons (pe_op op_sub (pv 3) (pv 1)) pa_nil))))))))) (pss_one ps_never) pss_nil)
    (pss_cons (ps_expr (pe_methO (pv 0) TS.cl G_Station_remember (hr.mono (by omega)) (pa_cons (pe_tup (pa_cons pe_str (pa_cons (pv 1) (pa_cons (pv 2) pa_nil)))) pa_nil)))
    (pss_cons (ps_set (i := 4) sc_Station_give_up.nd rfl (by first | exact Or.inl rfl | exact Or.inr rfl) (pe_callH G_without_first (hr.mono (by omega)) (by rfl) (pa_cons (pe_fld (pv 0) rfl) (pa_cons (pv 1) pa_nil))))
    (pss_cons (ps_fld (pv 0) (pe_op op_cat (pe_callH G_only_first (hr.mono (by omega)) (by rfl) (pa_cons (pe_fld (pv 0) rfl) (pa_cons (pv 1) pa_nil))) (pe_callH G_without_first (hr.mono (by omega)) (by rfl) (pa_cons (pv 4) (pa_cons (pv 2) pa_nil)))) rfl)
    (pss_cons (ps_fld (pv 0) (pe_callH G_state_with (hr.mono (by omega)) (by rfl) (pa_cons (pe_ix ix_tup (pe_fld (pv 0) rfl) pe_int (fun _ _ => rfl)) (pa_cons (pe_op op_sub (pv 3) (pv 2)) pa_nil))) rfl)
    (pss_one (ps_ret (pe_ix ix_tup (pe_ix ix_list (pv 4) pe_int (fun _ _ => rfl)) pe_int (fun _ _ => rfl)))))))))), ?_⟩
    refine ⟨_, rfl, p, C, dx, _, _, rfl, hp, TS.cl, TS.n1, fl6_state .., v, S.st, rfl, hv, ?_⟩
    refine ⟨_, rfl, _, rfl, _, _, rfl, rfl, i, 0, _, rfl, _, rfl, iteN ?_ ?_⟩
    · rw [decide_eq_true ⟨i0, by omega⟩]
      rfl
    refine ⟨_, rfl, _, rfl, _, rfl, _, _, rfl, rfl, c, 1, _, rfl, _, rfl, iteN ?_ ?_⟩
    · rw [decide_eq_true ⟨c1, by omega⟩]
      rfl
    refine ⟨_, rfl, p, dx, _, rfl, hp, fl6_no nf_remember .., _, rfl, _, rfl, (by show 3 ≤ sizeLine; decide), fun t nt => ?_⟩
    have s2 := same_upd (o := .tup [.str "give_up", .int i, .int c]) nt
    refine ⟨p, ap, ar, ab, S, es, .ref t, (("give_up" : Str), .inl i, c), rfl, z.same s2, ⟨t, rfl, upd_same⟩, by omega, fun H3 b3 z3 => ?_⟩
    have F3 : Fr p ap H H3 := (Fr.of s2).trans (Fr.but2 b3)
    clear hp hv hR hB s2 nt b3 hP
    obtain ⟨⟨dx, v, hp, hv⟩, hR, hB, hP, n1, n2, ne3⟩ := id z3
    replace hP : PstH H3 ap _ := hP
    have pa : ap ≠ p := by
      obtain ⟨xs, e, _⟩ := hP
      exact ne_of e hp (by intro y; cases y)
    have pb : ab ≠ p := by
      obtain ⟨xs, e, _⟩ := hB
      exact ne_of e hp (by intro y; cases y)
    -- later
    refine ⟨_, rfl, p, C, dx, _, _, rfl, hp, TS.cl, TS.n2, fl6_ranges .., _, rfl, ar, S.R, i, rfl, hR, by omega, fun H4 a4 s4 n4 h4 => ?_⟩
    -- ranges
    refine ⟨_, rfl, p, C, dx, _, _, rfl, s4 _ _ hp, TS.cl, TS.n2, fl6_ranges .., _, rfl, ar, S.R, i, rfl, hR.same s4, by omega, fun H5 a5 s5 n5 ⟨b5, h5, h5p⟩ => ?_⟩
    refine ⟨_, rfl, _, rfl, a4, _, c, rfl, h4.same s5, Nat.le_trans (wfR_len _ _) (by omega), fun H6 a6 s6 n6 ⟨b6, h6, h6p⟩ => ?_⟩
    have l5 : b5.length ≤ 50000 := by
      rw [Paired.len h5p]
      exact Nat.le_trans (ofR_len _ _) lR
    have l6 : b6.length ≤ 50000 := by
      rw [Paired.len h6p]
      exact Nat.le_trans (wfR_len _ _) (Nat.le_trans (wfR_len _ _) lR)
    refine ⟨a5, a6, b5, b6, rfl, rfl, s6 _ _ h5, h6, Nat.le_of_lt (small (by omega)), fun ar' nr => ?_⟩
    have s7 := same_upd (o := .lst (b5 ++ b6)) nr
    have hr7 : (upd H6 ar' (.lst (b5 ++ b6))) ar' = some (.lst (b5 ++ b6)) := upd_same
    have hrp7 : Paired (PV (upd H6 ar' (.lst (b5 ++ b6)))) (b5 ++ b6) (ofR S.R i ++ wfR (wfR S.R i) c) := Paired.app (pvs_same (s6.trans s7) h5p) (pvs_same s7 h6p)
    generalize upd H6 ar' (.lst (b5 ++ b6)) = H7 at *
    have s47 := s4.trans (s5.trans (s6.trans s7))
    have pr' : ar' ≠ p := (ne_of_none ((s4.trans (s5.trans s6)) _ _ hp) nr).symm
    have nr3 : H3 ar' = none := (s4.trans (s5.trans s6)).free nr
    refine ⟨_, rfl, p, C, dx, _, rfl, s47 _ _ hp, TS.cl, TS.n2, fl6_len .., ?_⟩
    rw [put_ranges]
    have hp8 : (upd H7 p (.ins C dx (fl6 v (.ref ar') (.int S.n) (.int S.m) (.ref ab) (.ref ap)))) p = some (.ins C dx (fl6 v (.ref ar') (.int S.n) (.int S.m) (.ref ab) (.ref ap))) := upd_same
    have b8 : But p H7 (upd H7 p (.ins C dx (fl6 v (.ref ar') (.int S.n) (.int S.m) (.ref ab) (.ref ap)))) := but_upd
    generalize upd H7 p (.ins C dx (fl6 v (.ref ar') (.int S.n) (.int S.m) (.ref ab) (.ref ap))) = H8 at *
    have k8 := tk_but (s47 _ _ hp) (by intro _ y; cases y) b8
    have p4 : a4 ≠ p := (ne_of_none hp n4).symm
    have hR8 : Rngs H8 ar' (ofR S.R i ++ wfR (wfR S.R i) c) := Rngs.tk k8 (b8.at pr') ⟨_, hr7, hrp7⟩
    have hL8 := (h4.same (s5.trans (s6.trans s7))).tk k8 (b8.at p4)
    have hB8 := (hB.same s47).tk k8 (b8.at pb)
    have hP8 := (hP.same s47).ins (s47 _ _ hp) b8
    have hv8 := (hv.same s47).tk k8
    have F8 : Fr p ap H3 H8 := (Fr.of s47).trans (Fr.but1 b8)
    clear hrp7 hr7 s47 s4 s5 s6 s7 h5p h6p h5 h6 h4 b8 k8
    -- state
    have hv8' := hv8
    rw [est] at hv8'
    obtain ⟨tv, ev, htv⟩ := hv8'
    refine ⟨_, rfl, p, C, dx, _, _, rfl, hp8, TS.cl, TS.n1, fl6_state .., tv, _, 0, _, ev, rfl, .of htv, at0, _, rfl, _, rfl, _, _, rfl, rfl, k, _, rfl, fun H9 v' s9 h9 => ?_⟩
    refine ⟨_, rfl, p, C, dx, _, rfl, s9 _ _ hp8, TS.cl, TS.n1, fl6_len .., ?_⟩
    rw [put_state]
    have b10 : But p H9 (upd H9 p (.ins C dx (fl6 v' (.ref ar') (.int S.n) (.int S.m) (.ref ab) (.ref ap)))) := but_upd
    have hp10 : (upd H9 p (.ins C dx (fl6 v' (.ref ar') (.int S.n) (.int S.m) (.ref ab) (.ref ap)))) p = some (.ins C dx (fl6 v' (.ref ar') (.int S.n) (.int S.m) (.ref ab) (.ref ap))) := upd_same
    generalize upd H9 p (.ins C dx (fl6 v' (.ref ar') (.int S.n) (.int S.m) (.ref ab) (.ref ap))) = H10 at *
    have k10 := tk_but (s9 _ _ hp8) (by intro _ y; cases y) b10
    obtain ⟨ls, hls, hlp⟩ := (hL8.same s9).tk k10 (b10.at p4)
    have eh : ∃ x t, ls = x :: t ∧ PV H10 x zr := by
      generalize wfR S.R i = W at *
      cases hlp with
      | nil => cases ez
      | cons hx _ =>
        cases ez
        exact ⟨_, _, rfl, hx⟩
    obtain ⟨x, lt, rfl, ⟨tx, rfl, htx⟩⟩ := eh
    have fr : ∀ {Ha Hb : Hp} {x : Addr}, Fr p ap Ha Hb → Hb x = none → x ≠ p → x ≠ ap → Ha x = none := fun {Ha Hb x} b e n m => by
      cases y : Ha x with
      | none => rfl
      | some o =>
        rw [b _ _ n m y] at e
        cases e
    have aar : ap ≠ ar' := by
      obtain ⟨xs, e, _⟩ := hP
      exact ne_of_none e nr3
    refine ⟨_, rfl, a4, _, 0, _, rfl, rfl, .of hls, atI_ofB (Int.le_refl _) rfl, tx, _, 0, _, rfl, rfl, .of htx, at0, ?_⟩
    exact q _ ar' (F3.trans (F8.trans ((Fr.of s9).trans (Fr.but1 b10)))) (fr F3 nr3 pr' aar.symm) ⟨⟨dx, v', hp10, h9.tk k10⟩, (hR8.same s9).tk k10 (b10.at pr'), (hB8.same s9).tk k10 (b10.at pb), (hP8.same s9).ins (s9 _ _ hp8) b10, aar, n2, ne3⟩
/-! Station.undo: slots 0:self 1:operation 2:before -/
abbrev s_Station_undo : Stmt := inClass (topS 42) 6
theorem sc_Station_undo : FnScope ["self", "operation", "before"] ["self"] (defScope s_Station_undo) := ⟨rfl, rfl, rfl, by decide +kernel, rfl, by decide +kernel, by decide +kernel⟩
def sp_Station_undo (C : Addr) : Sp := fun vs H Q _ => ∃ (p ap ar ab : Addr) (S : Sta) (es : List Ent) (e : Ent), vs = [.ref p] ∧ StnH C H p ap ar ab S (es ++ [e]) ∧ ∀ H', Fr p ap H H' → StnH C H' p ap e.ar e.ab e.S es → Q .non H'
theorem ok_Station_undo (D : DfM K C "undo" "Station.undo" s_Station_undo) (T : Tx mg) (TS : ClsT K mg C) : HasM P w K mg base C 1 "undo" ["self"] (sp_Station_undo C) := by
  refine hasM_of D sc_Station_undo (fun _ _ _ _ _ _ us hl => match us, hl with | [_], _ => rfl) (fun vs H Q E h => ?_) (fun f cdv A outer s₀ H vs Q E hr h => ?_)
  · obtain ⟨_, _, _, _, _, _, _, rfl, _⟩ := h
    rfl
  · obtain ⟨p, ap, ar, ab, S, es, e, rfl, z, q⟩ := h
    obtain ⟨⟨dx, v, hp, hv⟩, hR, hB, ⟨xs, hx, hxp⟩, n1, n2, ne⟩ := id z
    obtain ⟨ys, y, rfl, hy, he⟩ := paired_snocR es e hxp
    refine ⟨_, (pss_cons (ps_if (pt_cmpR op_eq (pe_callB call_len_seq (by rfl) T.n_len (by decide +kernel) (pa_cons (pe_fld (pv 0) rfl) pa_nil)) pe_int (nomark _)) (pss_one ps_never) pss_nil)
    (pss_cons (ps_asg (pe_bm0 PySem.F.plainAttrs_list PySem.F.slot_list_pop PySem.F.type_list_pop mt_pop (pe_fld (pv 0) rfl)) (pg_tup rfl (pgs_cons (pg_name (i := 1) sc_Station_undo.nd rfl (by first | exact Or.inl rfl | exact Or.inr rfl)) (pgs_cons (pg_name (i := 2) sc_Station_undo.nd rfl (by first | exact Or.inl rfl | exact Or.inr rfl)) pgs_nil))))
    (pss_one (ps_asg (pv 2) (pg_tup rfl (pgs_cons (pg_fld (pv 0)) (pgs_cons (pg_fld (pv 0)) (pgs_cons (pg_fld (pv 0)) (pgs_cons (pg_fld (pv 0)) (pgs_cons (pg_fld (pv 0)) pgs_nil)))))))))), ?_⟩
    refine ⟨_, rfl, p, C, dx, _, _, rfl, hp, TS.cl, TS.n6, fl6_past .., ap, _, rfl, .inl (.of hx), rfl, _, rfl, iteN (decide_eq_false (fun z => ?_)) ?_⟩
    · have z := V.int.inj z
      rw [List.length_append] at z
      have z : ((ys.length + 1 : Nat) : Int) = 0 := z
      omega
    refine ⟨_, rfl, p, C, dx, _, _, rfl, hp, TS.cl, TS.n6, fl6_past .., .inl ⟨rfl, _, SqL.of hx⟩, ap, ys ++ [y], y, rfl, rfl, hx, (by simp), ?_⟩
    have b1 : But ap H (upd H ap (.lst (ys ++ [y]).dropLast)) := but_upd
    have hx1 : (upd H ap (.lst (ys ++ [y]).dropLast)) ap = some (.lst ys) := by rw [upd_same, List.dropLast_concat]
    generalize upd H ap (.lst (ys ++ [y]).dropLast) = H1 at *
    have k1 : Tk H H1 := tk_but hx (by intro _ z; cases z) b1
    have pa : p ≠ ap := ne_of hp hx (by intro z; cases z)
    have hp1 := b1 _ _ pa hp
    have hne := ne e (List.mem_append.mpr (.inr (List.mem_singleton.mpr rfl)))
    have hy1 := ents_keep k1 (fun x hx => ⟨b1.at (ne x (List.mem_append.mpr (.inl hx))).1.symm, b1.at (ne x (List.mem_append.mpr (.inl hx))).2.symm⟩) hy
    have he1 := he.keep k1 (b1.at hne.1.symm) (b1.at hne.2.symm)
    obtain ⟨t, u, tb, v', rfl, ht, ho, hb, hv', hr', hl'⟩ := he1
    refine ⟨t, _, rfl, .of ht, rfl, _, _, rfl, _, _, rfl, rfl, ?_⟩
    refine ⟨_, rfl, tb, _, rfl, .of hb, rfl, _, _, rfl, _, rfl, p, C, dx, _, rfl, hp1, TS.cl, TS.n1, fl6_len .., ?_⟩
    rw [put_state]
    refine ⟨_, _, rfl, _, rfl, p, C, dx, _, rfl, upd_same, TS.cl, TS.n2, fl6_len .., ?_⟩
    rw [put_ranges, upd_upd]
    refine ⟨_, _, rfl, _, rfl, p, C, dx, _, rfl, upd_same, TS.cl, TS.n3, fl6_len .., ?_⟩
    rw [put_arrived, upd_upd]
    refine ⟨_, _, rfl, _, rfl, p, C, dx, _, rfl, upd_same, TS.cl, TS.n4, fl6_len .., ?_⟩
    rw [put_paired, upd_upd]
    refine ⟨_, _, rfl, _, rfl, p, C, dx, _, rfl, upd_same, TS.cl, TS.n5, fl6_len .., ?_⟩
    rw [put_blocks, upd_upd]
    have b2 : But p H1 (upd H1 p (.ins C dx (fl6 v' (.ref e.ar) (.int e.S.n) (.int e.S.m) (.ref e.ab) (.ref ap)))) := but_upd
    have k2 := tk_but hp1 (by intro _ z; cases z) b2
    have rb : ∀ {x : Addr} {l : List V}, H1 x = some (.lst l) → x ≠ p := fun {x l} e => ne_of e hp1 (by intro z; cases z)
    obtain ⟨lr, hlr, hlrp⟩ := id hr'
    obtain ⟨ll, hll, hllp⟩ := id hl'
    refine ⟨rfl, q _ ((Fr.but2 b1).trans (Fr.but1 b2)) ⟨⟨dx, v', upd_same, hv'.tk k2⟩, hr'.tk k2 (b2.at (rb hlr)), hl'.tk k2 (b2.at (rb hll)), ?_, hne.1, hne.2, fun x hx => ne x (List.mem_append.mpr (.inl hx))⟩⟩
    exact PstH.ins ⟨ys, hx1, hy1⟩ hp1 b2
end
end UP

set_option Elab.async false
set_option linter.all false
set_option maxRecDepth 100000
set_option maxHeartbeats 4000000
set_option pp.maxSteps 300
namespace UP
open PySem PySem.Spec PyProof.Rows L2
theorem mdp_mates (k : Str) (q mt t' : Addr) (c g : Int) : putK (md k q mt c g) (Sum.inr "mates") (.ref t') = md k q t' c g := by
  rw [putK_in (md_mates k q mt c g)]
  unfold md
  simp only [List.map_cons, List.map_nil, Sum.inr.injEq, s_kind_mates, s_queue_mates, s_count_mates, s_gone_mates, reduceIte]
section
variable {P : Program} {w : World} {K : PySem.W.Frag} {mg : Str → Option Value} {base : Heap} {C : Addr}
def sp_law_apply (C : Addr) : Sp := fun vs H Q _ => ∃ (p ap ar ab : Addr) (S : Sta) (es : List Ent) (M : Mod) (u : V) (o : Op) (y : Int), vs = [.ref p, u, .int y] ∧ StnH C H p ap ar ab S es ∧ MR M S ∧ OpV H u o ∧ Vld M o ∧ S.R.length ≤ 5000 ∧ S.B.length ≤ 500000 ∧ es.length ≤ 5000 ∧
  ∀ H' ar' ab' r, Fr p ap H H' → H ar' = none → (ab' = ab ∨ H ab' = none) → StnH C H' p ap ar' ab' (opS S M.k o) (es ++ [⟨o, S, ar, ab⟩]) → (∀ M' r', DoR M o M' r' → r = r') → Q (.int r) H'
theorem ok_law_apply (D : Df K mg "_law_apply" s_law_apply) (TS : ClsT K mg C) (G_Station_arrive : HasMD P w K mg base C 3 "arrive" ["self", "kind", "count"] 2 "count" (.int 1) (sp_Station_arrive C)) (G_Station_give_up : HasMD P w K mg base C 3 "give_up" ["self", "index", "count"] 2 "count" (.int 1) (sp_Station_give_up C)) :
    Has P w K mg base 4 "_law_apply" ["some", "call", "way"] (sp_law_apply C) := by
  refine has_of D sc_law_apply (fun _ _ _ _ _ _ us hl => match us, hl with | [_, _, _], _ => rfl) (fun vs H Q E h => ?_) (fun f cdv A outer s₀ H vs Q E hr h => ?_)
  · obtain ⟨_, _, _, _, _, _, _, _, _, _, rfl, _⟩ := h
    rfl
  · obtain ⟨p, ap, ar, ab, S, es, M, u, o, y, rfl, z, mr, ho, vl, lR, lB, lO, q⟩ := h
    obtain ⟨t, rfl, ht⟩ := ho
    refine ⟨_, (pss_cons (ps_if (pt_cmpR op_eq (pe_ix ix_tup (pv 1) pe_int (fun _ _ => rfl)) pe_str (nomark _)) (C8.pss_cut (ps_if (PW.pt (pw_and (pt_cmpR op_eq (pe_ix ix_tup (pv 1) pe_int (fun _ _ => rfl)) pe_int (nomark _)) (pw_and1 (pt_cmpR op_eq (pv 2) pe_int (nomark _))))) (pss_one (ps_ret (pe_methDO (pv 0) TS.cl G_Station_arrive (hr.mono (by omega)) (pa_cons (pe_ix ix_tup (pv 1) pe_int (fun _ _ => rfl)) pa_nil)))) pss_nil)
    (pss_one (ps_ret (pe_ifExp (pt_cmpR op_eq (pv 2) pe_int (nomark _)) (pe_methFO (pv 0) TS.cl G_Station_arrive (hr.mono (by omega)) (pa_cons (pe_ix ix_tup (pv 1) pe_int (fun _ _ => rfl)) (pa_cons (pe_ix ix_tup (pv 1) pe_int (fun _ _ => rfl)) pa_nil))) (pe_methNO (pv 0) TS.cl G_Station_arrive (hr.mono (by omega)) (pa_cons (pe_ix ix_tup (pv 1) pe_int (fun _ _ => rfl)) pa_nil) (pk_cons (pe_ix ix_tup (pv 1) pe_int (fun _ _ => rfl)) pk_nil)))))) pss_nil)
    (C8.pss_cut (ps_if (PW.pt (pw_and (pt_cmpR op_eq (pe_ix ix_tup (pv 1) pe_int (fun _ _ => rfl)) pe_int (nomark _)) (pw_and1 (pt_cmpR op_eq (pv 2) pe_int (nomark _))))) (pss_one (ps_ret (pe_methDO (pv 0) TS.cl G_Station_give_up (hr.mono (by omega)) (pa_cons (pe_ix ix_tup (pv 1) pe_int (fun _ _ => rfl)) pa_nil)))) pss_nil)
    (pss_one (ps_ret (pe_ifExp (pt_cmpR op_eq (pv 2) pe_int (nomark _)) (pe_methFO (pv 0) TS.cl G_Station_give_up (hr.mono (by omega)) (pa_cons (pe_ix ix_tup (pv 1) pe_int (fun _ _ => rfl)) (pa_cons (pe_ix ix_tup (pv 1) pe_int (fun _ _ => rfl)) pa_nil))) (pe_methNO (pv 0) TS.cl G_Station_give_up (hr.mono (by omega)) (pa_cons (pe_ix ix_tup (pv 1) pe_int (fun _ _ => rfl)) pa_nil) (pk_cons (pe_ix ix_tup (pv 1) pe_int (fun _ _ => rfl)) pk_nil))))))), ?_⟩
    rcases vl with ⟨k, n, rfl, kk, n1, n8⟩ | ⟨i, n, rfl, n1, l⟩
    · obtain ⟨dx1, fs1, hp1, lk1⟩ := z.stn.at nf_arrive
      have fin : ∀ H' ar' ab', Fr p ap H H' → H ar' = none → H ab' = none → StnH C H' p ap ar' ab' (arrS S k n) (es ++ [⟨(("arrive" : Str), .inr k, (n : Int)), S, ar, ab⟩]) → Q (.int (leavR S.st k n)) H' := fun H' ar' ab' fr nr nb zs' =>
        q H' ar' ab' _ fr nr (.inr nb) zs' (fun M' r d => by
          rcases d.a with ⟨k', n', e, _, _, _, _, er⟩ | ⟨i', n', x', e, _⟩
          · cases e
            rw [er, (mr.arr k n1).2]
          · exact absurd (congrArg (fun o : Op => o.1) e) (fun z => ag z.symm))
      refine ⟨_, rfl, t, _, 0, _, rfl, rfl, .of ht, rfl, rfl, _, rfl, iteP (decide_eq_true rfl) ?_⟩
      refine ⟨fun σ' H' => σ' = [some (.ref p), some (.ref t), some (.int y)] ∧ H' = H, ?_, fun σ' H1 hM => ?_⟩
      · refine ⟨_, rfl, t, _, 2, _, rfl, rfl, .of ht, rfl, rfl, _, rfl, ?_⟩
        by_cases c1 : (n : Int) = 1
        · refine iteP (by rw [decide_eq_true (congrArg V.int c1)]) ⟨_, rfl, rfl, _, rfl, ite2 (fun e => ?_) (fun e => ⟨rfl, rfl⟩)⟩
          exact ⟨_, rfl, p, dx1, _, rfl, hp1, lk1, _, rfl, t, _, 1, _, rfl, rfl, .of ht, rfl, p, ap, ar, ab, S, es, k, n, (by rw [c1]; rfl), z, kk, by omega, by omega, by omega, by omega, by omega, fin⟩
        · exact iteN (by rw [decide_eq_false (fun e => c1 (V.int.inj e))]) ⟨rfl, rfl⟩
      obtain ⟨rfl, rfl⟩ := hM
      refine ⟨_, rfl, rfl, _, rfl, ite2 (fun e => ?_) (fun e => ?_)⟩
      · exact ⟨_, rfl, p, dx1, _, rfl, hp1, lk1, _, rfl, t, _, 1, _, rfl, rfl, .of ht, rfl, _, rfl, t, _, 2, _, rfl, rfl, .of ht, rfl, p, ap, ar, ab, S, es, k, n, rfl, z, kk, by omega, by omega, by omega, by omega, by omega, fin⟩
      · exact ⟨_, rfl, p, dx1, _, rfl, hp1, lk1, _, rfl, t, _, 1, _, rfl, rfl, .of ht, rfl, _, rfl, t, _, 2, _, rfl, rfl, .of ht, rfl, rfl, rfl, p, ap, ar, ab, S, es, k, n, rfl, z, kk, by omega, by omega, by omega, by omega, by omega, fin⟩
    · obtain ⟨_, nu, est, x, zr, ex, hz, ez⟩ := mr.lev n1 l
      obtain ⟨dx1, fs1, hp1, lk1⟩ := z.stn.at nf_give_up
      have fin : ∀ H' ar', Fr p ap H H' → H ar' = none → StnH C H' p ap ar' ab (givS S i n M.k) (es ++ [⟨(("give_up" : Str), .inl (i : Int), (n : Int)), S, ar, ab⟩]) → Q (.int zr.1) H' := fun H' ar' fr nr zs' =>
        q H' ar' ab _ fr nr (.inl rfl) zs' (fun M' r d => by
          rcases d.a with ⟨k', n', e, _⟩ | ⟨i', n', x', e, _, _, _, ex', er⟩
          · exact absurd (congrArg (fun o : Op => o.1) e) ag
          · cases e
            rw [ex] at ex'
            cases ex'
            rw [er, ez])
      refine ⟨_, rfl, t, _, 0, _, rfl, rfl, .of ht, rfl, rfl, _, rfl, iteN (decide_eq_false (fun e => ag (V.str.inj e))) ?_⟩
      refine ⟨fun σ' H' => σ' = [some (.ref p), some (.ref t), some (.int y)] ∧ H' = H, ?_, fun σ' H1 hM => ?_⟩
      · refine ⟨_, rfl, t, _, 2, _, rfl, rfl, .of ht, rfl, rfl, _, rfl, ?_⟩
        by_cases c1 : (n : Int) = 1
        · refine iteP (by rw [decide_eq_true (congrArg V.int c1)]) ⟨_, rfl, rfl, _, rfl, ite2 (fun e => ?_) (fun e => ⟨rfl, rfl⟩)⟩
          exact ⟨_, rfl, p, dx1, _, rfl, hp1, lk1, _, rfl, t, _, 1, _, rfl, rfl, .of ht, rfl, p, ap, ar, ab, S, es, M.k, i, n, zr, (by rw [c1]; rfl), z, est, by omega, by omega, by omega, hz, by omega, by omega, fin⟩
        · exact iteN (by rw [decide_eq_false (fun e => c1 (V.int.inj e))]) ⟨rfl, rfl⟩
      obtain ⟨rfl, rfl⟩ := hM
      refine ⟨_, rfl, rfl, _, rfl, ite2 (fun e => ?_) (fun e => ?_)⟩
      · exact ⟨_, rfl, p, dx1, _, rfl, hp1, lk1, _, rfl, t, _, 1, _, rfl, rfl, .of ht, rfl, _, rfl, t, _, 2, _, rfl, rfl, .of ht, rfl, p, ap, ar, ab, S, es, M.k, i, n, zr, rfl, z, est, by omega, by omega, by omega, hz, by omega, by omega, fin⟩
      · exact ⟨_, rfl, p, dx1, _, rfl, hp1, lk1, _, rfl, t, _, 1, _, rfl, rfl, .of ht, rfl, _, rfl, t, _, 2, _, rfl, rfl, .of ht, rfl, rfl, rfl, p, ap, ar, ab, S, es, M.k, i, n, zr, rfl, z, est, by omega, by omega, by omega, hz, by omega, by omega, fin⟩
end
end UP

set_option Elab.async false
set_option linter.all false
set_option maxRecDepth 100000
set_option maxHeartbeats 4000000
namespace UP
open PySem PySem.Spec PyProof.Rows L2
section
variable {P : Program} {w : World} {K : PySem.W.Frag} {mg : Str → Option Value} {base : Heap}
/-- a def that may raise an exception whose context is None -/
theorem okXN {x qual : Str} {st : Stmt} {f : Addr} {fd : FuncData} {N ps : List Str} {k : Nat} {sp : Sp} (F : Fun K x qual st f fd) (S : FnScope N ps (defScope st)) (len : ∀ vs H Q E, sp vs H Q E → vs.length = ps.length)
    (body : ∀ (cdv : Value) (A : Around) (outer : List Env) (s : Shared) (H : Hp) (vs : List V) (Q : VK) (E : XK), Room k (A.deeper (envOfC qual (defScope st) s.heap.objs.size f cdv)) → sp vs H Q E →
      ∃ t, PSs (cxOf (L2N.CX P w) P w K mg base N qual (defScope st) f cdv A outer s H E) (defBody st) t ∧ t { nx := fun _ H' => Q .non H', rt := Q } (start N vs) H) : FnOk P w K mg base (L2N.CX P w) (k + 1) f fd ps sp := by
  obtain ⟨oc, od, kV, doc, pm, an, cdv, ct, osl, rfl, lk, hcd⟩ := F.ex
  exact fn_of lk hcd S len fun A outer s H vs Q E hr hsp => body cdv A outer s H vs Q E hr hsp
end
end UP

set_option Elab.async false
set_option linter.all false
set_option maxRecDepth 100000
set_option maxHeartbeats 4000000
set_option pp.maxSteps 600
namespace UP
open PySem PySem.Spec PyProof.Rows L2
/-! ### values of any form that a menu holds -/
inductive Dat where
  | non
  | bl (b : Bool)
  | int (n : Int)
  | str (z : Str)
  | dic
  | lst (l : List Dat)
  | tup (l : List Dat)
inductive Rp (H : Hp) : V → Dat → Prop where
  | non : Rp H .non .non
  | bl (b : Bool) : Rp H (.bl b) (.bl b)
  | int (n : Int) : Rp H (.int n) (.int n)
  | str (z : Str) : Rp H (.str z) (.str z)
  | dic {a : Addr} (e : H a = some (.dK [])) : Rp H (.ref a) .dic
  | lst {a : Addr} {xs : List V} {l : List Dat} (e : H a = some (.lst xs)) (h : Paired (Rp H) xs l) : Rp H (.ref a) (.lst l)
  | tup {a : Addr} {xs : List V} {l : List Dat} (e : H a = some (.tup xs)) (h : Paired (Rp H) xs l) : Rp H (.ref a) (.tup l)
theorem Rp.same {H H' : Hp} (s : Same H H') {v : V} {d : Dat} (h : Rp H v d) : Rp H' v d := by
  refine Rp.rec (motive_1 := fun v d _ => Rp H' v d) (motive_2 := fun xs l _ => Paired (Rp H') xs l) .non .bl .int .str ?_ ?_ ?_ .nil ?_ h
  · intro a e
    exact .dic (s _ _ e)
  · intro a xs l e _ ih
    exact .lst (s _ _ e) ih
  · intro a xs l e _ ih
    exact .tup (s _ _ e) ih
  · intro x y xs ys _ _ h1 h2
    exact .cons h1 h2
def Dat.isI : Dat → Bool
  | .int _ => true
  | _ => false
def Dat.inI (lo hi : Int) : Dat → Bool
  | .int n => decide (lo ≤ n ∧ n ≤ hi)
  | _ => false
/-- its parts, if it is a list or a tuple -/
def Dat.parts : Dat → Option (List Dat)
  | .lst l => some l
  | .tup l => some l
  | _ => none
def Dat.listed (d : Dat) (m : Int) : Bool := match d.parts with
  | some l => decide ((l.length : Int) ≤ m)
  | none => false
def Dat.couple (d : Dat) : Bool := match d.parts with
  | some l => decide (l.length = 2)
  | none => false
/-- the name of its type -/
def Dat.ty : Dat → String
  | .non => "NoneType"
  | .bl _ => "bool"
  | .int _ => "int"
  | .str _ => "str"
  | .dic => "dict"
  | .lst _ => "list"
  | .tup _ => "tuple"
theorem Rp.tyx {K : PySem.W.Frag} {H : Hp} {v : V} {d : Dat} (h : Rp H v d) : TyX K H v (.type d.ty) := by
  cases h with
  | non => exact .base .non
  | bl b => exact .base (.bl b)
  | int n => exact .base (.int n)
  | str z => exact .base (.str z)
  | dic e => exact .base (.dK e)
  | lst e _ => exact .base (.lst e)
  | tup e _ => exact .base (.tup e)
theorem giP {b : Bool} {A B : Prop} (h : b = true) (x : A) : if b = true then A else B := by
  rw [if_pos h]
  exact x
theorem giN {b : Bool} {A B : Prop} (h : b = false) (x : B) : if b = true then A else B := by
  rw [if_neg (by rw [h]; decide)]
  exact x
section
variable {P : Program} {w : World} {K : PySem.W.Frag} {mg : Str → Option Value} {base : Heap}
def spD_is_whole : Sp := fun vs H Q _ => ∃ (v : V) (d : Dat), vs = [v] ∧ Rp H v d ∧ Q (.bl d.isI) H
theorem okD_is_whole (D : Df K mg "is_whole" s_is_whole) (T : Tx mg) : Has P w K mg base 1 "is_whole" ["value"] spD_is_whole := by
  refine has_of D sc_is_whole (fun _ _ _ _ _ _ us hl => match us, hl with | [_], _ => rfl) (fun vs H Q E h => ?_) (fun f cdv A outer s H vs Q E hr h => ?_)
  · obtain ⟨v, d, rfl, _⟩ := h
    rfl
  · obtain ⟨v, d, rfl, hv, q⟩ := h
    refine ⟨_, (pss_one (ps_ret (pe_and (pe_callB call_isi (by rfl) T.n_isinstance (by decide +kernel) (pa_cons (pv 0) (pa_cons (pe_bltn (v := .ty "int") (by rfl) T.n_int (by decide +kernel) rfl) pa_nil))) (pe_one (pe_not (pe_callB call_isi (by rfl) T.n_isinstance (by decide +kernel) (pa_cons (pv 0) (pa_cons (pe_bltn (v := .ty "bool") (by rfl) T.n_bool (by decide +kernel) rfl) pa_nil)))))))), ?_⟩
    cases hv with
    | int n => exact ⟨_, rfl, _, _, _, _, true, rfl, .ty "int", .base (.int n), kit_ty (by decide +kernel), true, rfl, iteT ⟨_, rfl, _, _, _, _, false, rfl, .ty "bool", .base (.int n), kit_ty (by decide +kernel), false, rfl, q⟩⟩
    | bl b => exact ⟨_, rfl, _, _, _, _, true, rfl, .ty "int", .base (.bl b), kit_ty (by decide +kernel), true, rfl, iteT ⟨_, rfl, _, _, _, _, true, rfl, .ty "bool", .base (.bl b), kit_ty (by decide +kernel), true, rfl, q⟩⟩
    | non => exact ⟨_, rfl, _, _, _, _, false, rfl, .ty "int", .base .non, kit_ty (by decide +kernel), false, rfl, iteF q⟩
    | str z => exact ⟨_, rfl, _, _, _, _, false, rfl, .ty "int", .base (.str z), kit_ty (by decide +kernel), false, rfl, iteF q⟩
    | dic e => exact ⟨_, rfl, _, _, _, _, false, rfl, .ty "int", .base (.dK e), kit_ty (by decide +kernel), false, rfl, iteF q⟩
    | lst e h => exact ⟨_, rfl, _, _, _, _, false, rfl, .ty "int", .base (.lst e), kit_ty (by decide +kernel), false, rfl, iteF q⟩
    | tup e h => exact ⟨_, rfl, _, _, _, _, false, rfl, .ty "int", .base (.tup e), kit_ty (by decide +kernel), false, rfl, iteF q⟩
def spD_is_within : Sp := fun vs H Q _ => ∃ (v : V) (d : Dat) (lo hi : Int), vs = [v, .int lo, .int hi] ∧ Rp H v d ∧ Q (.bl (d.inI lo hi)) H
theorem okD_is_within (D : Df K mg "is_within" s_is_within) (G_is_whole : Has P w K mg base 1 "is_whole" ["value"] spD_is_whole) : Has P w K mg base 2 "is_within" ["value", "low", "high"] spD_is_within := by
  refine has_of D sc_is_within (fun _ _ _ _ _ _ us hl => match us, hl with | [_, _, _], _ => rfl) (fun vs H Q E h => ?_) (fun f cdv A outer s H vs Q E hr h => ?_)
  · obtain ⟨v, d, lo, hi, rfl, _⟩ := h
    rfl
  · obtain ⟨v, d, lo, hi, rfl, hv, q⟩ := h
    refine ⟨_, (pss_one (ps_ret (pe_and (pe_callH G_is_whole (hr.mono (by omega)) (by rfl) (pa_cons (pv 0) pa_nil)) (pe_one (pe_chain op_le op_le (pv 1) (pv 0) (pv 2)))))), ?_⟩
    refine ⟨_, rfl, v, d, rfl, hv, d.isI, rfl, ?_⟩
    by_cases ci : d.isI = true
    · refine giP ci ?_
      cases hv with
      | int n =>
        refine ⟨_, rfl, _, rfl, _, _, rfl, rfl, _, rfl, ite2 (fun e => ?_) (fun e => ?_)⟩
        · have e := of_decide_eq_true e
          refine ⟨_, rfl, _, _, rfl, rfl, ?_⟩
          show Q (.bl (decide (n ≤ hi))) H
          rw [show decide (n ≤ hi) = (Dat.int n).inI lo hi by show _ = decide (lo ≤ n ∧ n ≤ hi); simp [e]]
          exact q
        · have e : ¬ lo ≤ n := fun z => e (decide_eq_true z)
          show Q (.bl false) H
          rw [show false = (Dat.int n).inI lo hi by show _ = decide (lo ≤ n ∧ n ≤ hi); simp [e]]
          exact q
      | _ => cases ci
    · refine giN (by simpa using ci) ?_
      have e : d.inI lo hi = false := by
        cases d with
        | int n => exact absurd rfl ci
        | _ => rfl
      rw [e] at q
      exact q
end
/-! ### what the functions say of such a value -/
def kindB (z : Str) : Bool := decide (1 ≤ (z.length : Int) ∧ (z.length : Int) ≤ 8) && z.cps.toList.all fun c => decide (97 ≤ c ∧ c ≤ 122)
def Dat.kind : Dat → Bool
  | .str z => kindB z
  | _ => false
/-- its text, if it is one, is not too long -/
def Dat.fit : Dat → Prop
  | .str z => z.length ≤ 4000
  | _ => True
def Dat.two (d : Dat) : Option (Dat × Dat) := match d.parts with
  | some [x, y] => some (x, y)
  | _ => none
theorem kitS {K : PySem.W.Frag} {H : Hp} {v : V} {d : Dat} (h : Rp H v d) (hn : ∀ z, d ≠ .str z) : ∃ t, TyX K H v t ∧ PySem.W.kitOne K t (.type "str") = some false := by
  cases h with
  | non => exact ⟨_, .base .non, kit_ty (by decide +kernel)⟩
  | bl b => exact ⟨_, .base (.bl b), kit_ty (by decide +kernel)⟩
  | int n => exact ⟨_, .base (.int n), kit_ty (by decide +kernel)⟩
  | str z => exact absurd rfl (hn z)
  | dic e => exact ⟨_, .base (.dK e), kit_ty (by decide +kernel)⟩
  | lst e _ => exact ⟨_, .base (.lst e), kit_ty (by decide +kernel)⟩
  | tup e _ => exact ⟨_, .base (.tup e), kit_ty (by decide +kernel)⟩
theorem all_map {α : Type} (l : List α) (f : α → Bool) : ((l.map f).all id) = l.all f := by
  induction l with
  | nil => rfl
  | cons x t ih => rw [List.map_cons, List.all_cons, List.all_cons, ih]; rfl
section
variable {P : Program} {w : World} {K : PySem.W.Frag} {mg : Str → Option Value} {base : Heap}
def spD_is_kind : Sp := fun vs H Q _ => ∃ (v : V) (d : Dat), vs = [v] ∧ Rp H v d ∧ d.fit ∧ ∀ H', Same H H' → Q (.bl d.kind) H'
theorem okD_is_kind (D : Df K mg "is_kind" s_is_kind) (T : Tx mg) : Has P w K mg base 1 "is_kind" ["value"] spD_is_kind := by
  refine has_of D sc_is_kind (fun _ _ _ _ _ _ us hl => match us, hl with | [_], _ => rfl) (fun vs H Q E h => ?_) (fun f cdv A outer s H vs Q E hr h => ?_)
  · obtain ⟨v, d, rfl, _⟩ := h
    rfl
  · obtain ⟨v, d, rfl, hv, fit, q⟩ := h
    refine ⟨_, (pss_cons (ps_if (PW.pt (pw_or (pt_not (pt_val (pe_callB call_isi (by rfl) T.n_isinstance (by decide +kernel) (pa_cons (pv 0) (pa_cons (pe_bltn (v := .ty "str") (by rfl) T.n_str (by decide +kernel) rfl) pa_nil))))) (pw_or1 (pt_not (pt_chain op_le op_le pe_int (pe_callB call_len_str (by rfl) T.n_len (by decide +kernel) (pa_cons (pv 0) pa_nil)) (pe_glI T.c_MAX_LETTERS (by rfl))))))) (pss_one (ps_ret pe_bl)) pss_nil)
    (pss_one (ps_ret (pe_callB (cr_all rfl) (by rfl) T.n_all (by decide +kernel) (pa_cons (pe_lc (own := [("letter", 1)]) rfl sc_is_kind.nd (pi_str (pv 0)) (blkOk_by (N := ["value", "letter"]) (sc := defScope s_is_kind) (by decide +kernel)) (fun _ _ _ _ _ => (pg_name (i := 1) sc_is_kind.nd rfl (by first | exact Or.inl rfl | exact Or.inr rfl))) (fun _ _ _ _ _ => pts_nil) (fun _ _ _ _ _ => (pe_chain op_le_str op_le_str pe_str (pv 1) pe_str))) pa_nil))))), ?_⟩
    by_cases hn : ∀ z, d ≠ .str z
    · obtain ⟨t, h1, h2⟩ := kitS (K := K) hv hn
      have e : d.kind = false := by
        cases d with
        | str z => exact absurd rfl (hn z)
        | _ => rfl
      rw [e] at q
      exact ⟨_, rfl, _, _, _, _, false, rfl, .ty "str", h1, h2, false, rfl, iteT (q H (Same.refl H))⟩
    have hn : ∃ z, d = .str z := by
      apply Classical.byContradiction
      intro c
      exact hn fun z e => c ⟨z, e⟩
    obtain ⟨z, rfl⟩ := hn
    cases hv
    have fit : z.length ≤ 4000 := fit
    refine ⟨_, rfl, _, _, _, _, true, rfl, .ty "str", .base (.str z), kit_ty (by decide +kernel), true, rfl, iteF ?_⟩
    have no : ¬ (1 ≤ (z.length : Int) ∧ (z.length : Int) ≤ 8) → (Dat.str z).kind = false := fun c => by
      show (decide _ && _) = false
      rw [decide_eq_false c]
      rfl
    refine ⟨_, rfl, z, rfl, smallE (by omega), _, _, rfl, rfl, _, rfl, ?_⟩
    by_cases c1 : (1 : Int) ≤ (z.length : Int)
    · refine iteP (decide_eq_true c1) ⟨_, _, rfl, rfl, _, rfl, ?_⟩
      by_cases c2 : (z.length : Int) ≤ 8
      · refine iteN ?_ ?_
        · show (!decide ((z.length : Int) ≤ 8)) = false
          rw [decide_eq_true c2]
          rfl
        refine ⟨_, rfl, z, rfl, fun L nL => lc_gen (n := z.cps.size) (fun i H' => Same H H' ∧ H' L = some (.lst (((z.cps.toList.take i).map fun c => decide (97 ≤ c ∧ c ≤ 122)).map V.bl))) ⟨same_upd nL, upd_same⟩ (fun i H' hi _ => hi) (fun H' _ => Nat.le_refl _) (fun i x H1 H2 hi p y => ?_) (fun H' p => ?_)⟩
        · obtain ⟨rfl, c, ec, rfl⟩ := y
          obtain ⟨sm, hL⟩ := p
          have ec' : z.cps.toList[i]? = some c := by
            rw [Array.getElem?_toList]
            exact ec
          have ea : ("a" : Str).cps.toList = [97] := by decide +kernel
          have ez : ("z" : Str).cps.toList = [122] := by decide +kernel
          have lim : (((z.cps.toList.take i).map fun c => decide (97 ≤ c ∧ c ≤ 122)).map V.bl).length < sizeLine := by
            simp only [List.length_map, List.length_take]
            exact small (by have : z.cps.size = z.length := rfl; omega)
          have put : ∀ b : Bool, b = decide (97 ≤ c ∧ c ≤ 122) → Same H (upd H2 L (.lst ((((z.cps.toList.take i).map fun c => decide (97 ≤ c ∧ c ≤ 122)).map V.bl) ++ [V.bl b]))) ∧ (upd H2 L (.lst ((((z.cps.toList.take i).map fun c => decide (97 ≤ c ∧ c ≤ 122)).map V.bl) ++ [V.bl b]))) L = some (.lst (((z.cps.toList.take (i + 1)).map fun c => decide (97 ≤ c ∧ c ≤ 122)).map V.bl)) := by
            intro b hb
            refine ⟨same_grow nL sm, ?_⟩
            rw [upd_same, take_snoc ec', List.map_append, List.map_append, hb]
            rfl
          have t1 : (!decide (([c] : List Nat) < ("a" : Str).cps.toList)) = decide (97 ≤ c) := by rw [ea, lex1]
          have t2 : (!decide ((("z" : Str).cps.toList) < ([c] : List Nat))) = decide (c ≤ 122) := by rw [ez, lex1]
          refine ⟨rfl, yesT ⟨_, rfl, _, _, rfl, rfl, _, rfl, ?_⟩⟩
          by_cases b1 : 97 ≤ c
          · refine iteP (t1.trans (decide_eq_true b1)) ⟨_, _, rfl, rfl, _, hL, lim, put _ ?_⟩
            exact t2.trans (decide_eq_decide.mpr ⟨fun z => ⟨b1, z⟩, fun z => z.2⟩)
          · refine iteN (t1.trans (decide_eq_false b1)) ⟨_, hL, lim, put _ ?_⟩
            exact (decide_eq_false (p := 97 ≤ c ∧ c ≤ 122) (fun z => b1 z.1)).symm
        · refine ⟨L, _, rfl, .of p.2, ?_⟩
          have e : (((z.cps.toList.take z.cps.size).map fun c => decide (97 ≤ c ∧ c ≤ 122)).all id) = (Dat.str z).kind := by
            rw [all_map, List.take_of_length_le (by rw [Array.length_toList]; exact Nat.le_refl _)]
            show _ = (decide _ && _)
            rw [decide_eq_true ⟨c1, c2⟩]
            rfl
          rw [e]
          exact q H' p.1
      · refine iteP ?_ ?_
        · show (!decide ((z.length : Int) ≤ 8)) = true
          rw [decide_eq_false c2]
          rfl
        rw [no fun k => c2 k.2] at q
        exact q H (Same.refl H)
    · rw [no fun k => c1 k.1] at q
      exact iteN (decide_eq_false c1) ⟨_, rfl, iteT (q H (Same.refl H))⟩
end
/-! ### functions that may raise -/
section
variable (P : Program) (w : World) (K : PySem.W.Frag) (mg : Str → Option Value) (base : Heap)
def HasX (k : Nat) (x : Str) (ps : List Str) (sp : Sp) : Prop :=
  ∃ f fd, mg x = some (.ref f) ∧ PySem.W.keepIn K (.ref f) = true ∧ Binds K fd ps [] ∧ FnOk P w K mg base (L2N.CX P w) k f fd ps sp
end
/-- the class x of errors stands at C -/
structure Ex (K : PySem.W.Frag) (mg : Str → Option Value) (x : Str) (C : Addr) : Prop where
  g : mg x = some (.ref C)
  x : PySem.W.excIn K C [.type "ValueError", .type "Exception", .type "BaseException", .type "object"] "ValueError.__new__" = true
  k : PySem.W.keepIn K (.ref C) = true
  b : PySem.W.subIn K (.ref C) (.type "BaseException") = some true
  t : PySem.W.typeIn K (.ref C) = some (.type "type")
theorem kind_ok {z : Str} (h : kindB z = true) : KindOk z := by
  unfold kindB at h
  have h := Bool.and_eq_true_iff.mp h
  have h1 := of_decide_eq_true h.1
  refine ⟨by omega, by omega, fun c hc => ?_⟩
  exact of_decide_eq_true (List.all_eq_true.mp h.2 c hc)
section
variable {P : Program} {w : World} {K : PySem.W.Frag} {mg : Str → Option Value} {base : Heap}
theorem hasX_of {x : Str} {st : Stmt} {ps N : List Str} {k : Nat} {sp : Sp} (D : Df K mg x st) (S : FnScope N ps (defScope st))
    (hb : ∀ (kV doc pm : Value) (an : Option Addr) (cdv ct : Value) (us : List Value), us.length = ps.length → bindArgs (PySem.W.fnOf x x (defArgs st) (defBody st) (defScope st) .none kV doc pm an cdv ct) ⟨us, []⟩ = pure (ps.zip us))
    (len : ∀ vs H Q E, sp vs H Q E → vs.length = ps.length)
    (body : ∀ (f : Addr) (cdv : Value) (A : Around) (outer : List Env) (s : Shared) (H : Hp) (vs : List V) (Q : VK) (E : XK), Room k (A.deeper (envOfC x (defScope st) s.heap.objs.size f cdv)) → sp vs H Q E →
      ∃ t, PSs (cxOf (L2N.CX P w) P w K mg base N x (defScope st) f cdv A outer s H E) (defBody st) t ∧ t { nx := fun _ H' => Q .non H', rt := Q } (start N vs) H) :
    HasX P w K mg base (k + 1) x ps sp := by
  obtain ⟨f, fd, g, F⟩ := D
  exact ⟨f, fd, g, F.kp, F.binds hb, okXN F S len fun cdv A outer s H vs Q E hr h => body f cdv A outer s H vs Q E hr h⟩
def spX_check_kind (C : Addr) : Sp := fun vs H Q E => ∃ (v : V) (d : Dat), vs = [v] ∧ Rp H v d ∧ d.fit ∧ (d.kind = true → ∀ H', Same H H' → Q .non H') ∧ (d.kind = false → ∀ H', Same H H' → E (.ref C) none H')
theorem okX_check_kind {C : Addr} (D : Df K mg "check_kind" s_check_kind) (X1 : Ex K mg "InvalidKind" C) (G_is_kind : Has P w K mg base 1 "is_kind" ["value"] spD_is_kind) : HasX P w K mg base 2 "check_kind" ["kind"] (spX_check_kind C) := by
  refine hasX_of D sc_check_kind (fun _ _ _ _ _ _ us hl => match us, hl with | [_], _ => rfl) (fun vs H Q E h => ?_) (fun f cdv A outer s H vs Q E hr h => ?_)
  · obtain ⟨v, r, rfl, _⟩ := h
    rfl
  · obtain ⟨v, d, rfl, hv, fit, q, qe⟩ := h
    refine ⟨_, (pss_one (ps_if (pt_not (pt_val (pe_callH G_is_kind (hr.mono (by omega)) (by rfl) (pa_cons (pv 0) pa_nil)))) (pss_one (L2N.ps_raise rfl (L2N.takes_of rfl rfl rfl rfl) (L2N.pmk_own PySem.F.excBase_ValueError X1.x X1.g X1.k (raises_own X1.b X1.t) (by exact rfl)))) pss_nil)), ?_⟩
    refine ⟨_, rfl, v, d, rfl, hv, fit, fun H1 s1 => ⟨_, rfl, ?_⟩⟩
    by_cases c : d.kind = true
    · exact iteN (by rw [c]; rfl) (q c _ s1)
    · have c : d.kind = false := by simpa using c
      exact iteP (by rw [c]; rfl) (qe c _ s1)
end
end UP

set_option Elab.async false
set_option linter.all false
set_option maxRecDepth 100000
set_option maxHeartbeats 4000000
set_option pp.maxSteps 600
namespace UP
open PySem PySem.Spec PyProof.Rows L2
/-! ### methods that may raise -/
def HasMX (P : Program) (w : World) (K : PySem.W.Frag) (mg : Str → Option Value) (base : Heap) (C : Addr) (k : Nat) (m : Str) (ps : List Str) (sp : Sp) : Prop := ∃ f fd, Meth K C m f ∧ Binds K fd ps [] ∧ FnOk P w K mg base (L2N.CX P w) k f fd ps sp
section
variable {P : Program} {w : World} {K : PySem.W.Frag} {mg : Str → Option Value} {base : Heap} {C : Addr}
theorem HasMD.m {k n : Nat} {m kw : Str} {ps : List Str} {d : V} {sp : Sp} (h : HasMD P w K mg base C k m ps n kw d sp) : HasM P w K mg base C k m ps sp := by
  obtain ⟨f, fd, a, b, _, _, F⟩ := h
  exact ⟨f, fd, a, b, F⟩
theorem hasMX_of {m q : Str} {st : Stmt} {ps N : List Str} {k : Nat} {sp : Sp} (D : DfM K C m q st) (S : FnScope N ps (defScope st))
    (hb : ∀ (kV doc pm : Value) (an : Option Addr) (cdv ct : Value) (us : List Value), us.length = ps.length → bindArgs (PySem.W.fnOf m q (defArgs st) (defBody st) (defScope st) .none kV doc pm an cdv ct) ⟨us, []⟩ = pure (ps.zip us))
    (len : ∀ vs H Q E, sp vs H Q E → vs.length = ps.length)
    (body : ∀ (f : Addr) (cdv : Value) (A : Around) (outer : List Env) (s : Shared) (H : Hp) (vs : List V) (Q : VK) (E : XK), Room k (A.deeper (envOfC q (defScope st) s.heap.objs.size f cdv)) → sp vs H Q E →
      ∃ t, PSs (cxOf (L2N.CX P w) P w K mg base N q (defScope st) f cdv A outer s H E) (defBody st) t ∧ t { nx := fun _ H' => Q .non H', rt := Q } (start N vs) H) :
    HasMX P w K mg base C (k + 1) m ps sp := by
  obtain ⟨f, fd, g, F⟩ := D
  exact ⟨f, fd, g, F.binds hb, okXN F S len fun cdv A outer s H vs Q E hr h => body f cdv A outer s H vs Q E hr h⟩
theorem hasMX_ofD {m q : Str} {st : Stmt} {ps N : List Str} {k n : Nat} {d : V} {sp : Sp} (D : DfMD K C m q st d) (S : FnScope N ps (defScope st)) (hpn : ps.length = n + 1)
    (hb : ∀ (T : Addr) (kV doc pm : Value) (an : Option Addr) (cdv ct : Value) (us its : List Value), us.length = n + 1 → its.length = 1 →
      ∃ z, bindArgs (PySem.W.fnOf m q (defArgs st) (defBody st) (defScope st) (.ref T) kV doc pm an cdv ct) ⟨us, []⟩ = seqItems? (.ref T) >>= z ∧ z (some its.toArray) = pure (ps.zip us))
    (len : ∀ vs H Q E, sp vs H Q E → vs.length = ps.length)
    (body : ∀ (f : Addr) (cdv : Value) (A : Around) (outer : List Env) (s : Shared) (H : Hp) (vs : List V) (Q : VK) (E : XK), Room k (A.deeper (envOfC q (defScope st) s.heap.objs.size f cdv)) → sp vs H Q E →
      ∃ t, PSs (cxOf (L2N.CX P w) P w K mg base N q (defScope st) f cdv A outer s H E) (defBody st) t ∧ t { nx := fun _ H' => Q .non H', rt := Q } (start N vs) H) :
    HasMX P w K mg base C (k + 1) m ps sp := by
  obtain ⟨f, fd, g, F⟩ := D
  have B0 : Binds K fd ps [] := by
    obtain ⟨ds, v, b⟩ := F.binds1 (n + 1) 1 (ps := ps) (by intro z; cases z) (by rw [hpn]; rfl) fun T kV doc pm an cdv ct us its h1 h2 => by
      obtain ⟨z, e1, e2⟩ := hb T kV doc pm an cdv ct us its h1 h2
      refine ⟨z, e1, ?_⟩
      have h3 : its.length ≤ 1 := Nat.le_of_eq h2
      rw [e2, List.drop_of_length_le h3, List.append_nil]
    cases v
    exact b
  exact ⟨f, fd, g, B0, F.ok S len fun cdv A outer s H vs Q E hr h => body f cdv A outer s H vs Q E hr h⟩
end
/-- o.m(e, ..): what it asks, whether it returns or raises -/
def tMethX (C : Addr) (m : Str) (sp : Sp) (E : L2.St → XK) (ta : TE) (t : TA) : TE := fun σ H Q => ta σ H fun x H1 => ∃ a dx fs, x = .ref a ∧ H1 a = some (.ins C dx fs) ∧ fs.lookup m = none ∧ t σ H1 fun vs H2 => sp (x :: vs) H2 Q (E σ)
def tMethB (C : Addr) (m : Str) (sp1 sp2 : Sp) (E : L2.St → XK) (ta : TE) (t : TA) : TE := fun σ H Q => ta σ H fun x H1 => ∃ a dx fs, x = .ref a ∧ H1 a = some (.ins C dx fs) ∧ fs.lookup m = none ∧ t σ H1 fun vs H2 => sp1 (x :: vs) H2 Q E0 ∨ sp2 (x :: vs) H2 Q (E σ)
section
variable {X : Cx} {C : Addr} {k j : Nat} {m : Str} {ps : List Str} {sp sp1 sp2 : Sp} {W : WX} {o e : Expr} {es : List Expr} {ta : TE} {t : TA} {pos apos : Pos}
theorem pe_methX {pl : Sem Bool} (he : PE X o ta) (c : Cls X.K C) (G : HasMX X.prog X.w X.K X.mg X.base C k m ps sp) (tk : L2N.Takes X W) (hr : Room k X.A) (ha : PA X (e :: es) t)
    (hst : starEach (e :: es) X.env = (false, eval e X.env) :: starEach es X.env := by rfl) (hpl : (backTo pos (starEach es X.env)).any (·.1) = false := by rfl)
    (ht : eval (.Call (.Attribute o m apos) (e :: es) [] pos) X.env = (do
      let ov ← eval o X.env
      standAt apos.atName
      let (f, first) ← holding [ov] (getMethod ov m pl)
      callWith pos f first (backTo pos (starEach (e :: es) X.env)) (backToKw pos (keywordEach [] X.env))) := by rfl) :
    PE X (.Call (.Attribute o m apos) (e :: es) [] pos) (tMethX C m sp (WE W) ta t) := by
  obtain ⟨f, fd, hm, hb, F⟩ := G
  refine ⟨fun pins s σ H Q I h => ?_⟩
  refine PySem.W.methodCall_KW (pl := pl) (thn (he.run pins s σ H _ I h) fun u s1 ⟨x, H1, I1, rx, a, dx, fs, ex, ea, l, q⟩ => ?_) ht
  subst ex
  obtain rfl : u = Value.ref a := rx
  refine getmeth_ok I1 ea c hm l ?_
  refine PySem.W.callWith_K (first := [.ref a]) (h₀ := X.base) I.ok.mod.kin hm.kp (thn (ha.run pos pins s1 σ H1 _ I1 q) fun us s2 ⟨vs, H2, I2, r, q2⟩ => ⟨I2.kIn, ?_⟩) hst hpl
  exact run_fnS (us := .ref a :: us) (vs := .ref a :: vs) F hr hb (L2N.passAt tk σ) I2 (.cons rfl r) q2
theorem pe_methB {pl : Sem Bool} (he : PE X o ta) (c : Cls X.K C) (G1 : HasM X.prog X.w X.K X.mg X.base C j m ps sp1) (G2 : HasMX X.prog X.w X.K X.mg X.base C k m ps sp2) (tk : L2N.Takes X W) (hr1 : Room j X.A) (hr : Room k X.A) (ha : PA X (e :: es) t)
    (hst : starEach (e :: es) X.env = (false, eval e X.env) :: starEach es X.env := by rfl) (hpl : (backTo pos (starEach es X.env)).any (·.1) = false := by rfl)
    (ht : eval (.Call (.Attribute o m apos) (e :: es) [] pos) X.env = (do
      let ov ← eval o X.env
      standAt apos.atName
      let (f, first) ← holding [ov] (getMethod ov m pl)
      callWith pos f first (backTo pos (starEach (e :: es) X.env)) (backToKw pos (keywordEach [] X.env))) := by rfl) :
    PE X (.Call (.Attribute o m apos) (e :: es) [] pos) (tMethB C m sp1 sp2 (WE W) ta t) := by
  obtain ⟨f, fd, hm, hb, F⟩ := G2
  obtain ⟨f1, fd1, hm1, hb1, F1⟩ := G1
  obtain rfl : f1 = f := Value.ref.inj (Option.some.inj (Option.some.inj (hm1.at_.symm.trans hm.at_)))
  refine ⟨fun pins s σ H Q I h => ?_⟩
  refine PySem.W.methodCall_KW (pl := pl) (thn (he.run pins s σ H _ I h) fun u s1 ⟨x, H1, I1, rx, a, dx, fs, ex, ea, l, q⟩ => ?_) ht
  subst ex
  obtain rfl : u = Value.ref a := rx
  refine getmeth_ok I1 ea c hm l ?_
  refine PySem.W.callWith_K (first := [.ref a]) (h₀ := X.base) I.ok.mod.kin hm.kp (thn (ha.run pos pins s1 σ H1 _ I1 q) fun us s2 ⟨vs, H2, I2, r, q2⟩ => ⟨I2.kIn, ?_⟩) hst hpl
  rcases q2 with q2 | q2
  · exact run_fn (ds := []) (dvs := []) (us := .ref a :: us) (vs := .ref a :: vs) F1 hr1 hb1 .nil pass0 I2 (.cons rfl r) (by rw [List.append_nil]; exact q2)
  · exact run_fnS (us := .ref a :: us) (vs := .ref a :: vs) F hr hb (L2N.passAt tk σ) I2 (.cons rfl r) q2
theorem pe_meth0B {pl : Sem Bool} (he : PE X o ta) (c : Cls X.K C) (G1 : HasM X.prog X.w X.K X.mg X.base C j m ps sp1) (G2 : HasMX X.prog X.w X.K X.mg X.base C k m ps sp2) (tk : L2N.Takes X W) (hr1 : Room j X.A) (hr : Room k X.A)
    (ht : eval (.Call (.Attribute o m apos) [] [] pos) X.env = (do
      let ov ← eval o X.env
      standAt apos.atName
      let (f, first) ← holding [ov] (getMethod ov m pl)
      callWith pos f first (backTo pos (starEach [] X.env)) (backToKw pos (keywordEach [] X.env))) := by rfl) :
    PE X (.Call (.Attribute o m apos) [] [] pos) (tMethB C m sp1 sp2 (WE W) ta tNil) := by
  obtain ⟨f, fd, hm, hb, F⟩ := G2
  obtain ⟨f1, fd1, hm1, hb1, F1⟩ := G1
  obtain rfl : f1 = f := Value.ref.inj (Option.some.inj (Option.some.inj (hm1.at_.symm.trans hm.at_)))
  refine ⟨fun pins s σ H Q I h => ?_⟩
  refine PySem.W.methodCall_KW (pl := pl) (thn (he.run pins s σ H _ I h) fun u s1 ⟨x, H1, I1, rx, a, dx, fs, ex, ea, l, q⟩ => ?_) ht
  subst ex
  obtain rfl : u = Value.ref a := rx
  refine getmeth_ok I1 ea c hm l (PySem.W.callWith_K0 (first := [.ref a]) I1.kIn hm.kp ?_)
  rcases q with q | q
  · exact run_fn (ds := []) (dvs := []) (us := [.ref a]) (vs := [.ref a]) F1 hr1 hb1 .nil pass0 I1 (.cons rfl .nil) q
  · exact run_fnS (us := [.ref a]) (vs := [.ref a]) F hr hb (L2N.passAt tk σ) I1 (.cons rfl .nil) q
theorem pe_callXH {x : Str} {p : Pos} (G : HasX X.prog X.w X.K X.mg X.base k x ps sp) (tk : L2N.Takes X W) (hr : Room k X.A) (hg : Gl X x) (ha : PA X (e :: es) t)
    (hdb : (x == ("__debug__" : Str)) = false := by decide) (he : starEach (e :: es) X.env = (false, eval e X.env) :: starEach es X.env := by rfl) (hpl : (backTo pos (starEach es X.env)).any (·.1) = false := by rfl) :
    PE X (.Call (.Name x p) (e :: es) [] pos) (tCallS sp (WE W) t) := by
  obtain ⟨f, fd, g, kp, b, F⟩ := G
  exact pe_callS F hr hg g kp b (fun σ => L2N.passAt tk σ) ha hdb he hpl
end
section
variable {P : Program} {w : World} {K : PySem.W.Frag} {mg : Str → Option Value} {base : Heap} {C : Addr}
/-- an arrival that is refused -/
def spX_Station_arrive (C CK CN : Addr) : Sp := fun vs H _ E => ∃ (p ap ar ab : Addr) (S : Sta) (ops : List Op) (v u : V) (d e : Dat), vs = [.ref p, v, u] ∧ Stn C H p ap ar ab S ops ∧ Rp H v d ∧ Rp H u e ∧ d.fit ∧
  ((d.kind = false ∧ ∀ H', Same H H' → E (.ref CK) none H') ∨ (d.kind = true ∧ e.inI 1 1000000000000000000000000000000 = false ∧ ∀ H', Same H H' → E (.ref CN) none H'))
theorem okX_Station_arrive {CK CN : Addr} (D : DfMD K C "arrive" "Station.arrive" s_Station_arrive (.int 1)) (T : Tx mg) (TS : ClsT K mg C) (X1 : Ex K mg "InvalidNumber" CN) (G_check_kind : HasX P w K mg base 2 "check_kind" ["kind"] (spX_check_kind CK)) (G_is_within : Has P w K mg base 2 "is_within" ["value", "low", "high"] spD_is_within)
    (G_Station_remember : HasM P w K mg base C 1 "remember" ["self", "operation"] (sp_Station_remember C)) (G_leaving_number : Has P w K mg base 1 "leaving_number" ["state", "kind", "count"] sp_leaving_number) (G_blocks_of_run : Has P w K mg base 1 "blocks_of_run" ["ranges", "start", "leaving"] sp_blocks_of_run)
    (G_ranges_after_run : Has P w K mg base 2 "ranges_after_run" ["ranges", "start", "count", "leaving"] sp_ranges_after_run) (G_state_after_run : Has P w K mg base 2 "state_after_run" ["state", "kind", "count"] sp_state_after_run) :
    HasMX P w K mg base C 3 "arrive" ["self", "kind", "count"] (spX_Station_arrive C CK CN) := by
  refine hasMX_ofD D sc_Station_arrive rfl (fun _ _ _ _ _ _ _ us its hl h1 => match us, hl, its, h1 with | [_, _, _], _, [_], _ => ⟨_, rfl, rfl⟩) (fun vs H Q E h => ?_) (fun f cdv A outer s₀ H vs Q E hr h => ?_)
  · obtain ⟨_, _, _, _, _, _, _, _, _, _, rfl, _⟩ := h
    rfl
  · obtain ⟨p, ap, ar, ab, S, ops, v, u, d, e, rfl, z, hv, hu, fit, q⟩ := h
    refine ⟨_, (pss_cons (ps_expr (pe_callXH G_check_kind (L2N.takes_of rfl rfl rfl rfl) (hr.mono (by omega)) (by rfl) (pa_cons (pv 1) pa_nil)))
    (pss_cons (ps_if (pt_not (pt_val (pe_callH G_is_within (hr.mono (by omega)) (by rfl) (pa_cons (pv 2) (pa_cons pe_int (pa_cons (pe_glI T.c_MAX_COUNT (by rfl)) pa_nil)))))) (pss_one (L2N.ps_raise rfl (L2N.takes_of rfl rfl rfl rfl) (L2N.pmk_own PySem.F.excBase_ValueError X1.x X1.g X1.k (raises_own X1.b X1.t) (by exact rfl)))) pss_nil)
    (pss_cons (ps_expr (pe_methO (pv 0) TS.cl G_Station_remember (hr.mono (by omega)) (pa_cons (pe_tup (pa_cons pe_str (pa_cons (pv 1) (pa_cons (pv 2) pa_nil)))) pa_nil)))
    (pss_cons (ps_set (i := 3) sc_Station_arrive.nd rfl (by first | exact Or.inl rfl | exact Or.inr rfl) (pe_callH G_leaving_number (hr.mono (by omega)) (by rfl) (pa_cons (pe_fld (pv 0) rfl) (pa_cons (pv 1) (pa_cons (pv 2) pa_nil)))))
    (pss_cons (ps_fld (pv 0) (pe_op op_cat (pe_fld (pv 0) rfl) (pe_callH G_blocks_of_run (hr.mono (by omega)) (by rfl) (pa_cons (pe_fld (pv 0) rfl) (pa_cons (pe_fld (pv 0) rfl) (pa_cons (pv 3) pa_nil))))) rfl)
    (pss_cons (ps_fld (pv 0) (pe_callH G_ranges_after_run (hr.mono (by omega)) (by rfl) (pa_cons (pe_fld (pv 0) rfl) (pa_cons (pe_fld (pv 0) rfl) (pa_cons (pv 2) (pa_cons (pv 3) pa_nil))))) rfl)
    (pss_cons (ps_fld (pv 0) (pe_callH G_state_after_run (hr.mono (by omega)) (by rfl) (pa_cons (pe_fld (pv 0) rfl) (pa_cons (pv 1) (pa_cons (pv 2) pa_nil)))) rfl)
    (pss_cons (ps_fldaug (pv 0) (pv 2) in_add)
    (pss_cons (ps_fldaug (pv 0) (pv 3) in_add)
    (pss_one (ps_ret (pv 3)))))))))))), ?_⟩
    refine ⟨_, rfl, v, d, rfl, hv, fit, fun ck H1 s1 => ?_, fun ck H1 s1 => ?_⟩
    · rcases q with ⟨q1, _⟩ | ⟨_, q2, q3⟩
      · rw [ck] at q1
        cases q1
      refine ⟨_, rfl, u, e, 1, _, rfl, hu.same s1, _, rfl, iteP ?_ (q3 _ s1)⟩
      rw [q2]
      rfl
    · rcases q with ⟨_, q3⟩ | ⟨q1, _⟩
      · exact q3 _ s1
      · rw [ck] at q1
        cases q1
def spX_Station_give_up (C CN : Addr) : Sp := fun vs H _ E => ∃ (p ap ar ab : Addr) (S : Sta) (ops : List Op) (v u : V) (d e : Dat), vs = [.ref p, v, u] ∧ Stn C H p ap ar ab S ops ∧ Rp H v d ∧ Rp H u e ∧
  (d.inI 0 (numR S.st - 1) = false ∨ ∃ i, d = .int i ∧ d.inI 0 (numR S.st - 1) = true ∧ e.inI 1 (numR S.st - i) = false) ∧ ∀ H', Same H H' → E (.ref CN) none H'
theorem okX_Station_give_up {CN : Addr} (D : DfMD K C "give_up" "Station.give_up" s_Station_give_up (.int 1)) (T : Tx mg) (TS : ClsT K mg C) (X1 : Ex K mg "InvalidNumber" CN) (G_waiting_number : Has P w K mg base 1 "waiting_number" ["state"] sp_waiting_number) (G_is_within : Has P w K mg base 2 "is_within" ["value", "low", "high"] spD_is_within)
    (G_Station_remember : HasM P w K mg base C 1 "remember" ["self", "operation"] (sp_Station_remember C)) (G_without_first : Has P w K mg base 1 "without_first" ["ranges", "number"] sp_without_first) (G_only_first : Has P w K mg base 1 "only_first" ["ranges", "number"] sp_only_first) (G_state_with : Has P w K mg base 1 "state_with" ["kind", "number"] sp_state_with) :
    HasMX P w K mg base C 3 "give_up" ["self", "index", "count"] (spX_Station_give_up C CN) := by
  refine hasMX_ofD D sc_Station_give_up rfl (fun _ _ _ _ _ _ _ us its hl h1 => match us, hl, its, h1 with | [_, _, _], _, [_], _ => ⟨_, rfl, rfl⟩) (fun vs H Q E h => ?_) (fun f cdv A outer s₀ H vs Q E hr h => ?_)
  · obtain ⟨_, _, _, _, _, _, _, _, _, _, rfl, _⟩ := h
    rfl
  · obtain ⟨p, ap, ar, ab, S, ops, v, u, d, e, rfl, z, hv, hu, bad, q⟩ := h
    obtain ⟨⟨dx, v0, hp, hv0⟩, hR, hB, hP, n1, n2⟩ := id z
    refine ⟨_, (pss_cons (ps_set (i := 3) sc_Station_give_up.nd rfl (by first | exact Or.inl rfl | exact Or.inr rfl) (pe_callH G_waiting_number (hr.mono (by omega)) (by rfl) (pa_cons (pe_fld (pv 0) rfl) pa_nil)))
    (pss_cons (ps_if (PW.pt (pw_or (pt_not (pt_val (pe_callH G_is_within (hr.mono (by omega)) (by rfl) (pa_cons (pv 1) (pa_cons pe_int (pa_cons (pe_op op_sub (pv 3) pe_int) pa_nil)))))) (pw_or1 (pt_not (pt_val (pe_callH G_is_within (hr.mono (by omega)) (by rfl) (pa_cons (pv 2) (pa_cons pe_int (pa_cons (pe_op op_sub (pv 3) (pv 1)) pa_nil))))))))) (pss_one (L2N.ps_raise rfl (L2N.takes_of rfl rfl rfl rfl) (L2N.pmk_own PySem.F.excBase_ValueError X1.x X1.g X1.k (raises_own X1.b X1.t) (by exact rfl)))) pss_nil)
    (pss_cons (ps_expr (pe_methO (pv 0) TS.cl G_Station_remember (hr.mono (by omega)) (pa_cons (pe_tup (pa_cons pe_str (pa_cons (pv 1) (pa_cons (pv 2) pa_nil)))) pa_nil)))
    (pss_cons (ps_set (i := 4) sc_Station_give_up.nd rfl (by first | exact Or.inl rfl | exact Or.inr rfl) (pe_callH G_without_first (hr.mono (by omega)) (by rfl) (pa_cons (pe_fld (pv 0) rfl) (pa_cons (pv 1) pa_nil))))
    (pss_cons (ps_fld (pv 0) (pe_op op_cat (pe_callH G_only_first (hr.mono (by omega)) (by rfl) (pa_cons (pe_fld (pv 0) rfl) (pa_cons (pv 1) pa_nil))) (pe_callH G_without_first (hr.mono (by omega)) (by rfl) (pa_cons (pv 4) (pa_cons (pv 2) pa_nil)))) rfl)
    (pss_cons (ps_fld (pv 0) (pe_callH G_state_with (hr.mono (by omega)) (by rfl) (pa_cons (pe_ix ix_tup (pe_fld (pv 0) rfl) pe_int (fun _ _ => rfl)) (pa_cons (pe_op op_sub (pv 3) (pv 2)) pa_nil))) rfl)
    (pss_one (ps_ret (pe_ix ix_tup (pe_ix ix_list (pv 4) pe_int (fun _ _ => rfl)) pe_int (fun _ _ => rfl)))))))))), ?_⟩
    refine ⟨_, rfl, p, C, dx, _, _, rfl, hp, TS.cl, TS.n1, fl6_state .., v0, S.st, rfl, hv0, ?_⟩
    refine ⟨_, rfl, _, rfl, _, _, rfl, rfl, v, d, 0, _, rfl, hv, _, rfl, ?_⟩
    rcases bad with b | ⟨i, rfl, b1, b2⟩
    · exact iteP (by rw [b]; rfl) (q _ (Same.refl _))
    · cases hv
      refine iteN (by rw [b1]; rfl) ⟨_, rfl, _, rfl, _, rfl, _, _, rfl, rfl, u, e, 1, _, rfl, hu, _, rfl, iteP (by rw [b2]; rfl) (q _ (Same.refl _))⟩
def spX_Station_partner_at (C CP : Addr) : Sp := fun vs H _ E => ∃ (p ap ar ab : Addr) (S : Sta) (ops : List Op) (v : V) (d : Dat), vs = [.ref p, v] ∧ Stn C H p ap ar ab S ops ∧ Rp H v d ∧ d.inI 0 (S.n - 1) = false ∧ ∀ H', Same H H' → E (.ref CP) none H'
theorem okX_Station_partner_at {CP : Addr} (D : DfM K C "partner_at" "Station.partner_at" s_Station_partner_at) (TS : ClsT K mg C) (X1 : Ex K mg "InvalidPosition" CP) (G_is_within : Has P w K mg base 2 "is_within" ["value", "low", "high"] spD_is_within) (G_partner_in : Has P w K mg base 1 "partner_in" ["blocks", "position"] sp_partner_in) : HasMX P w K mg base C 3 "partner_at" ["self", "position"] (spX_Station_partner_at C CP) := by
  refine hasMX_of D sc_Station_partner_at (fun _ _ _ _ _ _ us hl => match us, hl with | [_, _], _ => rfl) (fun vs H Q E h => ?_) (fun f cdv A outer s₀ H vs Q E hr h => ?_)
  · obtain ⟨_, _, _, _, _, _, _, _, rfl, _⟩ := h
    rfl
  · obtain ⟨p, ap, ar, ab, S, ops, v, d, rfl, z, hv, b, q⟩ := h
    obtain ⟨⟨dx, v0, hp, hv0⟩, _, hB, _⟩ := z
    refine ⟨_, (pss_cons (ps_if (pt_not (pt_val (pe_callH G_is_within (hr.mono (by omega)) (by rfl) (pa_cons (pv 1) (pa_cons pe_int (pa_cons (pe_op op_sub (pe_fld (pv 0) rfl) pe_int) pa_nil)))))) (pss_one (L2N.ps_raise rfl (L2N.takes_of rfl rfl rfl rfl) (L2N.pmk_own PySem.F.excBase_ValueError X1.x X1.g X1.k (raises_own X1.b X1.t) (by exact rfl)))) pss_nil)
    (pss_one (ps_ret (pe_callH G_partner_in (hr.mono (by omega)) (by rfl) (pa_cons (pe_fld (pv 0) rfl) (pa_cons (pv 1) pa_nil)))))), ?_⟩
    exact ⟨_, rfl, _, rfl, p, C, dx, _, _, rfl, hp, TS.cl, TS.n3, fl6_arrived .., _, _, rfl, rfl, v, d, 0, _, rfl, hv, _, rfl, iteP (by rw [b]; rfl) (q _ (Same.refl _))⟩
def spX_Station_undo (C CN : Addr) : Sp := fun vs H _ E => ∃ (p ap ar ab : Addr) (S : Sta), vs = [.ref p] ∧ Stn C H p ap ar ab S [] ∧ ∀ H', Same H H' → E (.ref CN) none H'
theorem okX_Station_undo {CN : Addr} (D : DfM K C "undo" "Station.undo" s_Station_undo) (T : Tx mg) (TS : ClsT K mg C) (X1 : Ex K mg "NothingToUndo" CN) : HasMX P w K mg base C 1 "undo" ["self"] (spX_Station_undo C CN) := by
  refine hasMX_of D sc_Station_undo (fun _ _ _ _ _ _ us hl => match us, hl with | [_], _ => rfl) (fun vs H Q E h => ?_) (fun f cdv A outer s₀ H vs Q E hr h => ?_)
  · obtain ⟨_, _, _, _, _, rfl, _⟩ := h
    rfl
  · obtain ⟨p, ap, ar, ab, S, rfl, z, qe⟩ := h
    obtain ⟨⟨dx, v, hp, hv⟩, hR, hB, ⟨xs, hx, hxp⟩, n1, n2⟩ := z
    cases hxp
    refine ⟨_, (pss_cons (ps_if (pt_cmpR op_eq (pe_callB call_len_seq (by rfl) T.n_len (by decide +kernel) (pa_cons (pe_fld (pv 0) rfl) pa_nil)) pe_int (nomark _)) (pss_one (L2N.ps_raise rfl (L2N.takes_of rfl rfl rfl rfl) (L2N.pmk_own PySem.F.excBase_ValueError X1.x X1.g X1.k (raises_own X1.b X1.t) (by exact rfl)))) pss_nil)
    (pss_cons (ps_asg (pe_bm0 PySem.F.plainAttrs_list PySem.F.slot_list_pop PySem.F.type_list_pop mt_pop (pe_fld (pv 0) rfl)) (pg_tup rfl (pgs_cons (pg_name (i := 1) sc_Station_undo.nd rfl (by first | exact Or.inl rfl | exact Or.inr rfl)) (pgs_cons (pg_name (i := 2) sc_Station_undo.nd rfl (by first | exact Or.inl rfl | exact Or.inr rfl)) pgs_nil))))
    (pss_one (ps_asg (pv 2) (pg_tup rfl (pgs_cons (pg_fld (pv 0)) (pgs_cons (pg_fld (pv 0)) (pgs_cons (pg_fld (pv 0)) (pgs_cons (pg_fld (pv 0)) (pgs_cons (pg_fld (pv 0)) pgs_nil)))))))))), ?_⟩
    refine ⟨_, rfl, p, C, dx, _, _, rfl, hp, TS.cl, TS.n6, fl6_past .., ap, _, rfl, .inl (.of hx), rfl, _, rfl, iteP rfl (qe _ (Same.refl _))⟩
end
end UP

set_option Elab.async false
set_option linter.all false
set_option maxRecDepth 100000
set_option maxHeartbeats 4000000
/-! walks over lists and tuples while an exception is handled: the StopIteration at their end takes the handled one as its context -/
namespace UPH
open PySem PySem.Spec PyProof.Rows L2 HotX L2H
section
variable {prog : Program} {w : World} {A : Around} {E : Value → Shared → Prop} {s : Shared}
/-- a new StopIteration, raised and caught by pyNext -/
theorem stop_hot {α : Type} {B : Around} {x1 : Addr} {Q : Option Value → Shared → Prop} (hot : HotAt A x1 s.heap) (hQ : ∀ h', (∀ b o, s.heap.get? b = some o → h'.get? b = some o) → Q none { s with heap := h' }) :
    wpAny (model prog w) A (Builtin.SmallTypes.stopIteration : Sem α) (fun _ _ => False) (fun e s1 => wpAny (model prog w) B (isInstance e (.type "StopIteration")) (fun b s2 => b = true ∧ Q none s2) E s1) s := by
  obtain ⟨hh, o1, vs1, h1, d1, c1⟩ := hot
  show wpAny _ _ (newExc (.type "StopIteration") [] >>= _) _ _ _
  refine wpAny_bind ?_
  simp only [newExc, newTuple]
  refine wpAny_bind (wpAny_newObj_type ?_ (by size_fits))
  refine wpAny_bind (m := firstArgMember _ _) (wpAny_of_eq (a := Value.none) (by first | rfl | (simp only [firstArgMember]; rfl)) ?_)
  refine wpAny_newObj_type ?_ (by size_fits)
  refine raiseNew_hot ⟨hh, o1, vs1, Heap.get?_push_of_some _ (Heap.get?_push_of_some _ h1), d1, c1⟩ (Nat.ne_of_lt (Heap.lt_size (Heap.get?_push_of_some _ h1))) (Heap.get?_push_size _ rfl) rfl (by first | (simp; done) | (simp; omega) | (simp only [Array.size_append]; simp; omega)) ?_
  refine wpAny_isInstance (T := "StopIteration") (b := true) ⟨_, Heap.get?_update_self _ (Heap.get?_push_size _ rfl) rfl, rfl⟩ isSubtype_stop ⟨rfl, hQ _ fun b o e => ?_⟩
  rw [Heap.get?_update_other _ _ (Nat.ne_of_gt (Heap.lt_size (Heap.get?_push_of_some _ e)))]
  exact Heap.get?_push_of_some _ (Heap.get?_push_of_some _ e)
/-- the end of a list's iterator -/
theorem next_list_end_hot {it l x1 : Addr} {i : Nat} {items : Array Value} {Q : Option Value → Shared → Prop} (hot : HotAt A x1 s.heap) (hne : x1 ≠ it)
    (hit : s.heap.IsListIter it l i) (hl : s.heap.IsList l items) (hx : items[i]? = none)
    (hQ : ∀ h', Heap.ExtBut it s.heap h' → Q none { s with heap := h' }) : wpAny (model prog w) A (pyNext (.ref it)) Q E s := by
  obtain ⟨hh, o1, vs1, h1, d1, c1⟩ := hot
  obtain ⟨o, ho, hc, hd⟩ := id hit
  obtain ⟨ol, hol, _, nl, hdl⟩ := hl
  unfold pyNext
  refine wpAny_bind (wpAny_attempt (wpAny_callSpecial?_slot (name := Str.ofString "__next__") hit.typeIs slot_listiter_next
    (wpAny_call_entry slot_listiter_next hit.typeIs entry_listiter_next ?_ (args_listiter_next _))))
  show wpAny _ _ (field (.ref it) 0 >>= _) _ _ s
  refine wpAny_bind (wpAny_field ho hd (x := .ref l) rfl ?_)
  show wpAny _ _ (if (Value.ref l == Value.none) = true then _ else _) _ _ s
  rw [if_neg (show ¬ ((Value.ref l == Value.none) = true) from Bool.false_ne_true)]
  show wpAny _ _ (field (.ref it) 1 >>= _) _ _ s
  refine wpAny_bind (wpAny_field ho hd (x := .int i 0) rfl ?_)
  show wpAny _ _ (seqItems? (.ref l) >>= _) _ _ s
  refine wpAny_bind (wpAny_seqItems hol hdl ?_)
  simp only [Int.toNat_natCast, hx]
  refine wpAny_bind (wpAny_rule (wpAny_bind (wpAny_setField ho hd (by simp) ?_)))
  have h2 : (s.heap.update it (Obj.mapFields (·.setIfInBounds 0 .none))).get? x1 = some o1 := by
    rw [Heap.get?_update_other _ _ hne.symm]
    exact h1
  refine wpAny_mono (stop_hot (A := A.in1) (B := A) (E := E) (Q := Q) ⟨hh, o1, vs1, h2, d1, c1⟩ fun h' eb => hQ h' fun b o hb e => eb b o ?_) (fun _ _ z => False.elim z) (fun e s1 z => ?_)
  · rw [Heap.get?_update_other _ _ (Ne.symm hb)]
    exact e
  · refine wpAny_bind (wpAny_mono z (fun b s2 ⟨e1, q⟩ => ?_) fun _ _ y => y)
    subst e1
    exact wpAny_pure q
/-- the end of a tuple's iterator -/
theorem next_tuple_end_hot {it t x1 : Addr} {i : Nat} {items : Array Value} {Q : Option Value → Shared → Prop} (hot : HotAt A x1 s.heap) (hne : x1 ≠ it)
    (hit : IsTupIter s.heap it t i) (ht : IsTup s.heap t items) (hx : items[i]? = none)
    (hQ : ∀ h', Heap.ExtBut it s.heap h' → Q none { s with heap := h' }) : wpAny (model prog w) A (pyNext (.ref it)) Q E s := by
  obtain ⟨hh, o1, vs1, h1, d1, c1⟩ := hot
  obtain ⟨o, ho, hc, hd⟩ := id hit
  obtain ⟨ol, hol, _, nl, hdl⟩ := ht
  unfold pyNext
  refine wpAny_bind (wpAny_attempt (wpAny_callSpecial?_slot (name := Str.ofString "__next__") hit.typeIs slot_tupleiter_next
    (wpAny_call_entry slot_tupleiter_next hit.typeIs entry_tupleiter_next ?_ (args_tupleiter_next _))))
  show wpAny _ _ (field (.ref it) 0 >>= _) _ _ s
  refine wpAny_bind (wpAny_field ho hd (x := .ref t) rfl ?_)
  show wpAny _ _ (if (Value.ref t == Value.none) = true then _ else _) _ _ s
  rw [if_neg (show ¬ ((Value.ref t == Value.none) = true) from Bool.false_ne_true)]
  show wpAny _ _ (field (.ref it) 1 >>= _) _ _ s
  refine wpAny_bind (wpAny_field ho hd (x := .int i 0) rfl ?_)
  show wpAny _ _ (seqItems? (.ref t) >>= _) _ _ s
  refine wpAny_bind (wpAny_seqItems hol hdl ?_)
  simp only [Int.toNat_natCast, hx]
  refine wpAny_bind (wpAny_rule (wpAny_bind (wpAny_setField ho hd (by simp) ?_)))
  have h2 : (s.heap.update it (Obj.mapFields (·.setIfInBounds 0 .none))).get? x1 = some o1 := by
    rw [Heap.get?_update_other _ _ hne.symm]
    exact h1
  refine wpAny_mono (stop_hot (A := A.in1) (B := A) (E := E) (Q := Q) ⟨hh, o1, vs1, h2, d1, c1⟩ fun h' eb => hQ h' fun b o hb e => eb b o ?_) (fun _ _ z => False.elim z) (fun e s1 z => ?_)
  · rw [Heap.get?_update_other _ _ (Ne.symm hb)]
    exact e
  · refine wpAny_bind (wpAny_mono z (fun b s2 ⟨e1, q⟩ => ?_) fun _ _ y => y)
    subst e1
    exact wpAny_pure q
theorem unpackItems_hot {t x1 : Addr} {items : Array Value} {Q : List Value → Shared → Prop} (hot : HotAt A x1 s.heap) (ht : IsTup s.heap t items)
    (hQ : ∀ h', Heap.ExtBut s.heap.objs.size s.heap h' → Q items.toList { s with heap := h' }) : wpAny (model prog w) A (unpackItems (.ref t) items.size none) Q E s := by
  have hlt : t ≠ s.heap.objs.size := by obtain ⟨o, ho, _⟩ := ht; exact Nat.ne_of_lt (Heap.lt_size ho)
  obtain ⟨hh, o1, vs1, h1, d1, c1⟩ := hot
  have hx1 : x1 ≠ s.heap.objs.size := Nat.ne_of_lt (Heap.lt_size h1)
  unfold unpackItems
  refine wpAny_bind ?_
  · unfold notIterableAtAll
    refine wpAny_bind (wpAny_specialOf ht.typeIs slot_tuple_iter.lookup ?_)
    refine wpAny_pure ?_
    simp only [Bool.false_eq_true, if_false]
    refine wpAny_bind (wpAny_holding (iter_tuple ht ?_))
    refine wpAny_bind (wpAny_holding (draw_tuple hlt items.size 0 _ _ ⟨_, Heap.get?_push_size _ rfl, rfl, rfl⟩ (ht.push _) (by omega) fun h₁ hit₁ hs₁ => ?_))
    have hall : List.take items.size (List.drop 0 items.toList) = items.toList := by
      rw [List.drop_zero]; exact List.take_of_length_le (by simp)
    rw [hall]
    rw [if_neg (by simp)]
    have ht₁ : IsTup h₁ t items := (ht.push _).extBut hs₁.extBut hlt
    have h1' : h₁.get? x1 = some o1 := (hs₁.extBut) x1 o1 hx1 (Heap.get?_push_of_some _ h1)
    refine wpAny_bind (wpAny_holding (next_tuple_end_hot ⟨hh, o1, vs1, h1', d1, c1⟩ hx1 hit₁ ht₁ (by simp) fun h₂ he₂ => ?_))
    simp only [Option.isSome_none, Bool.false_eq_true, if_false]
    exact wpAny_pure (hQ h₂ fun b o hb e => he₂ b o hb (hs₁.extBut b o hb (Heap.get?_push_of_some _ e)))
theorem assign_Tuple_hot {env : Env} {elts : List Expr} {k : Nat} {pos : Pos} {t x1 : Addr} {items : Array Value} {Q : Unit → Shared → Prop} (hot : HotAt A x1 s.heap) (ht : IsTup s.heap t items)
    (hn : (assignEach elts env).length = items.size) (hstar : (assignEach elts env).findIdx? (·.1) = none)
    (h : ∀ h', Heap.ExtBut s.heap.objs.size s.heap h' → wpAny (model prog w) A (assignInOrder ((assignEach elts env).map (·.2)) items.toList) Q E { s with heap := h' }) :
    wpAny (model prog w) A (assign (.Tuple elts k pos) env (.ref t)) Q E s := by
  rw [assign_Tuple]
  refine wpAny_bind (wpAny_standAt ?_)
  unfold unpack
  rw [hn, hstar]
  exact wpAny_bind (wpAny_holding (unpackItems_hot hot ht h))
end
/-! ### targets and blocks in a context that bears a handled exception -/
section
variable {X : Cx}
theorem pg_tupH {es : List Expr} {k : Nat} {t : TGs} {n : Nat} {pos : Pos} (hc : HotC X) (h : PGs X es t)
    (hn : (assignEach es X.env).length = n := by rfl) (hst : (assignEach es X.env).findIdx? (·.1) = none := by rfl) : PG X (.Tuple es k pos) (gTup X.K n t) := by
  refine ⟨fun pins s σ H v u Q I r hw => ?_⟩
  obtain ⟨a, xs, e1, hq, hl, hw⟩ := hw
  subst e1
  cases r
  obtain ⟨its, rv, ht, hz⟩ := I.tuple hq
  obtain ⟨x1, hot⟩ := hc.at I
  refine assign_Tuple_hot hot ht (by simp [hn, ← hl, rv.length]) hst fun h' hx => ?_
  exact h.run pins _ σ H xs _ Q (I.kept (t' := s.toks) fun b o e => hx b o (Nat.ne_of_lt (Heap.lt_size e)) e) (by simpa using rv) hw
/-- a block's context, with what the def's context holds pinned -/
abbrev blkH (X : Cx) (s : Shared) (H : Hp) (scope : Scope) (cenv : Env) (fp : List Addr) (p : Addr × Obj) : Cx := { X.blk s H scope cenv fp with pn := [p] }
theorem to_blkH {s : Shared} {H : Hp} {scope : Scope} {cenv : Env} {fp : List Addr} {p : Addr × Obj} {σ : L2.St} {H' : Hp} {s' : Shared} (I : Inv (X.blk s H scope cenv fp) [] σ H' s') (hp : s'.heap.get? p.1 = some p.2 ∧ H' p.1 = none ∧ p.1 ≠ cenv.locals ∧ p.1 ∉ frs X.stack ∧ ∀ v, p.2.data ≠ .cell v) : Inv (blkH X s H scope cenv fp p) [] σ H' s' :=
  ⟨⟨I.ok.mod, I.ok.kind, I.ok.glob, I.ok.blt, I.ok.above, I.ok.inj, I.ok.has, I.ok.cab, I.ok.hd, I.ok.frames, I.ok.stk, I.ok.exf, I.ok.bs, I.ok.bsz, I.ok.noex, I.ok.exfs, I.ok.funs, I.ok.frf⟩, I.os, I.bare, I.base, I.loc, I.cell, I.free, I.freeC, fun q hq => by
    have : q = p := by simpa using hq
    rw [this]
    exact hp, I.hok, I.len⟩
/-- the core of a list comprehension over a list, an exception being handled -/
theorem lc_hot {pins : List (Addr × Obj)} {s : Shared} {σ : L2.St} {H : Hp} {Q : VK} {elt tg iter : Expr} {ifs : List Expr} {scope : Scope} {own : List (Str × Nat)} {pos pos' : Pos} {tl : TE} {g : TG} {tt : TT} {te : TE} {use : Option (Value → Sem Unit)} {Qf : Value → Shared → Prop}
    (hc : HotC X) (hN : X.N.Nodup) (I : Inv X pins σ H s) (hl : PE X iter tl) (ok : BlkOk X.N X.env.scope scope own)
    (hg : ∀ (s : Shared) (H : Hp) (C : Addr) (cl : List (Str × Addr)) (fp : List Addr) (p : Addr × Obj), Hot1 X.A p → PG (blkH X s H scope (compEnvC scope cl C X.env) fp p) tg g)
    (ht : ∀ (s : Shared) (H : Hp) (C : Addr) (cl : List (Str × Addr)) (fp : List Addr) (p : Addr × Obj), Hot1 X.A p → PTs (blkH X s H scope (compEnvC scope cl C X.env) fp p) ifs tt)
    (he : ∀ (s : Shared) (H : Hp) (C : Addr) (cl : List (Str × Addr)) (fp : List Addr) (p : Addr × Obj), Hot1 X.A p → PE (blkH X s H scope (compEnvC scope cl C X.env) fp p) elt te)
    (hs : ∀ x, foldedSetIterable iter X.env x = pure x)
    (h : tLc (iList X.K tl) g tt te (own.map (·.2)) σ H Q)
    (hRR : ∀ D C s' m H', Inv X pins σ H' s' → Q (.ref D) H' → s'.heap.Ns C m → FpOk X pins H' C → compPost (model X.prog X.w) X.A X.xe use Qf (.ref D) C (.ok .next) s') :
    wpAny (model X.prog X.w) X.A (comprehension (.ListComp elt [⟨tg, iter, ifs, 0⟩] scope pos) scope X.env pos' (newList []) false (eval iter X.env) use) Qf X.xe s := by
  obtain ⟨p, hp1, hpn⟩ := hc
  have hfree : ∀ y ∈ scope.names, y.2 = .free → ∃ c, X.env.cells.lookup y.1 = some c := fun y hy e => (ok.free y hy e).elim (fun k => I.ok.has _ (.inl k)) fun k => I.ok.has _ (.inr k)
  refine wpAny_comprehension_free (use := use) rfl hs (closure_ok hfree) ok.kind (fun y hy e => by rw [ok.uniq y hy, e]) (thn (hl.run pins s σ H _ I h) fun xv s1 hx => ?_)
  obtain ⟨x, H1, I1, r1, a, e, ⟨xs, hq⟩, q⟩ := hx
  subst e
  cases r1
  obtain ⟨its, rv, pl, hz⟩ := I1.list hq
  refine wpAny_pyIter_list pl.isList ?_
  generalize hit : s1.heap.objs.size = it
  generalize hs2 : ({ s1 with heap := s1.heap.push _ } : Shared) = s2
  have kp2 : ∀ b o, s1.heap.get? b = some o → s2.heap.get? b = some o := fun b o e => by rw [← hs2]; exact Heap.get?_push_of_some _ e
  have I2 : Inv X pins σ H1 s2 := by rw [← hs2]; exact I1.kept (t' := s1.toks) fun b o e => Heap.get?_push_of_some _ e
  have st2 : s2.heap.IsListIter it a 0 := by
    rw [← hs2, ← hit]
    exact ⟨_, Heap.get?_push_size _ rfl, rfl, rfl⟩
  have f2 : FpOk X pins H1 it := I1.fpOk (Nat.le_of_eq hit) (I1.hok.fresh (Nat.le_of_eq hit))
  refine wpAny_newObj_type (newEnv_comp ?_) (by show 0 ≤ sizeLine; decide)
  generalize hD : s2.heap.objs.size = D
  have hDn : H1 D = none := I2.hok.fresh (Nat.le_of_eq hD)
  obtain ⟨W, ⟨m0, w0⟩, turn⟩ := q D hDn
  generalize hs3 : ({ s2 with heap := s2.heap.push { cls := .type "list", data := .seq ([] : List Value).toArray } } : Shared) = s3
  have kp3 : ∀ b o, s2.heap.get? b = some o → s3.heap.get? b = some o := fun b o e => by rw [← hs3]; exact Heap.get?_push_of_some _ e
  have I3 : Inv X pins σ (upd H1 D (.lst [])) s3 := by
    rw [← hs3]
    refine I2.laid (t' := s2.toks) (fun b o e => Heap.get?_push_of_some _ e) (Nat.le_of_eq hD) ⟨Nat.zero_le _, [], 0, .nil, ?_⟩
    rw [← hD]
    exact Heap.get?_push_size _ rfl
  have ltD : it < D := by
    obtain ⟨o, ho, _⟩ := st2
    rw [← hD]
    exact Heap.lt_size ho
  have st3 : s3.heap.IsListIter it a 0 := by
    obtain ⟨o, ho, z⟩ := st2
    exact ⟨o, kp3 _ _ ho, z⟩
  have lt3 : it < s3.heap.objs.size := by
    obtain ⟨o, ho, _⟩ := st3
    exact Heap.lt_size ho
  have n3 : (upd H1 D (.lst [])) it = none := by
    rw [upd_ne (Nat.ne_of_lt ltD)]
    exact f2.1
  have f3 : FpOk X pins (upd H1 D (.lst [])) it := ⟨n3, f2.2⟩
  have pin3 := I3.pin p (List.mem_append_left _ hpn)
  have pne : p.1 ≠ it := f2.2.2.2.2.2 p (List.mem_append_left _ hpn)
  have I4 := block_start I3 ok hN (fp := [it]) fun b hb => by
    have : b = it := by simpa using hb
    rw [this]
    exact ⟨f3, lt3⟩
  generalize hH3 : upd H1 D (.lst []) = H3 at *
  have pg := hg s3 H3 s3.heap.objs.size (cellsFrom (s3.heap.objs.size + 1) scope.names (cloFrom X.env.cells scope.names [])) [it] p hp1
  have pt := ht s3 H3 s3.heap.objs.size (cellsFrom (s3.heap.objs.size + 1) scope.names (cloFrom X.env.cells scope.names [])) [it] p hp1
  have pe := he s3 H3 s3.heap.objs.size (cellsFrom (s3.heap.objs.size + 1) scope.names (cloFrom X.env.cells scope.names [])) [it] p hp1
  show codeAny _ _ (.compStart (.ListComp elt [⟨tg, iter, ifs, 0⟩] scope pos) 0 (.ref it) (.ref D) (compEnvC scope (cellsFrom (s3.heap.objs.size + 1) scope.names (cloFrom X.env.cells scope.names [])) s3.heap.objs.size X.env)) (compPost (model X.prog X.w) X.A X.xe use Qf (.ref D) s3.heap.objs.size) { s3 with heap := pushCells (s3.heap.push { cls := .type "dict", data := .dict #[] }) scope.names }
  generalize hce : compEnvC scope (cellsFrom (s3.heap.objs.size + 1) scope.names (cloFrom X.env.cells scope.names [])) s3.heap.objs.size X.env = ce at I4 pg pt pe ⊢
  have cL : ce.locals = s3.heap.objs.size := by subst hce; rfl
  generalize hs4 : ({ s3 with heap := pushCells (s3.heap.push { cls := .type "dict", data := .dict #[] }) scope.names } : Shared) = s4 at I4 ⊢
  have kp4 : ∀ b o, s3.heap.get? b = some o → s4.heap.get? b = some o := fun b o e => by rw [← hs4]; exact pushCells_keeps _ _ _ _ (Heap.get?_push_of_some _ e)
  have st4 : s4.heap.IsListIter it a 0 := by
    obtain ⟨o, ho, z⟩ := st3
    exact ⟨o, kp4 _ _ ho, z⟩
  have B4 : Inv (blkH X s3 H3 scope ce [it] p) [] (wipe σ (own.map (·.2))) H3 s4 := to_blkH I4 ⟨kp4 _ _ pin3.1, pin3.2.1, by
    rw [cL]
    exact Nat.ne_of_lt (Heap.lt_size pin3.1), fun z => (List.mem_cons.mp (I3.stkSub _ z)).elim pin3.2.2.1 pin3.2.2.2.1, pin3.2.2.2.2⟩
  have stat : ∀ {σ' : L2.St} {H' : Hp} {s' : Shared}, Inv (blkH X s3 H3 scope ce [it] p) [] σ' H' s' → H' it = none → FpOk (blkH X s3 H3 scope ce [it] p) [] H' it := fun {σ' H' s'} I' hn =>
    have mem : it ∈ (blkH X s3 H3 scope ce [it] p).ex := List.mem_singleton.mpr rfl
    ⟨hn, (I'.ok.exf it mem).1, I'.ok.exfs it mem, .inl mem, fun x c e => (I'.ok.exf it mem).2 x c e, fun q hq => by
      have : q = p := by simpa using hq
      rw [this]
      exact pne⟩
  have self : ∀ (A : Around) (s : Shared) (Q : Value → Shared → Prop) (E : Value → Shared → Prop), s.heap.IsListIter it a 0 → Q (.ref it) s → wpAny (model X.prog X.w) A (pyIter (.ref it)) Q E s := fun _ _ _ _ st h => wpAny_pyIter_listiter st h
  have loop : codeAny (model X.prog X.w) X.A (.compLoop (.ListComp elt [⟨tg, iter, ifs, 0⟩] scope pos) 0 (.ref it) (.ref D) ce) (compPost (model X.prog X.w) X.A X.xe use Qf (.ref D) s3.heap.objs.size) s4 := by
    refine compLoop_any (fun n s' => ∃ i H', Inv (blkH X s3 H3 scope ce [it] p) [] (wipe σ (own.map (·.2))) H' s' ∧ s'.heap.IsListIter it a i ∧ H' it = none ∧ W i n H') ?_ m0 ⟨0, H3, B4, st4, n3, w0⟩
    rintro n s5 ⟨i, H5, I5, st5, n5, w5⟩
    obtain ⟨f0, f1, f2', f4, f5, f6⟩ := stat I5 n5
    rcases turn i n H5 w5 with ⟨stop, qq⟩ | ⟨go, Nx, hNx, step⟩
    · obtain ⟨ys, hys, hlen⟩ := stop
      obtain ⟨its5, rv5, pl5, hz5⟩ := I5.list hys
      have pin5 := I5.pin p (List.mem_singleton.mpr rfl)
      obtain ⟨hh, vs1, d1, c1⟩ := hp1
      have hl5 := rv5.length
      refine next_list_end_hot ⟨hh, p.2, vs1, pin5.1, d1, c1⟩ pne st5 pl5.isList (by simp; omega) fun h' eb => ?_
      have I6 : Inv (blkH X s3 H3 scope ce [it] p) [] (wipe σ (own.map (·.2))) H5 { s5 with heap := h' } := I5.turned (t' := s5.toks) (fun b o hb e => eb b o hb e) f0 f1 f4 f5 f6
      have I7 : Inv X pins σ H5 { s5 with heap := h' } := I3.call' (ch := [it]) I6.os I6.base I6.hok I6.bare fun b hb => by
        have : b = it := by simpa using hb
        rw [this]
        exact ⟨f3.2.2.2.1, f3.2.1, f3.2.2.2.2.1, f3.2.2.2.2.2⟩
      have nC : H5 s3.heap.objs.size = none := by
        have z : H5 ce.locals = none := I6.free
        rw [cL] at z
        exact z
      obtain ⟨m, hn, _⟩ := I6.loc
      have hn : Heap.Ns _ ce.locals m := hn
      rw [cL] at hn
      exact hRR D s3.heap.objs.size _ m H5 I7 qq hn (I3.fpOk (Nat.le_refl _) nC)
    · obtain ⟨ys, y, hys, hy⟩ := go
      obtain ⟨its5, rv5, pl5, hz5⟩ := I5.list hys
      obtain ⟨u, hu, ru⟩ := rv5.get hy
      refine wpAny_pyNext_list_item st5 pl5.isList (x := u) (by simpa using hu) fun h' st6 sb => ?_
      have I6 : Inv (blkH X s3 H3 scope ce [it] p) [] (wipe σ (own.map (·.2))) H5 { s5 with heap := h' } := I5.turned (t' := s5.toks) (fun b o hb e => (sb.2 b hb).trans e) f0 f1 f4 f5 f6
      obtain ⟨o, e, c, d⟩ := id st6
      refine thnF (go_of (s := { s5 with heap := h' }) e c d (by decide) (Q := fun _ s7 => Inv (blkH X s3 H3 scope ce [it] p) [] (wipe σ (own.map (·.2))) H5 s7 ∧ s7.heap.IsListIter it a (i + 1)) ⟨I6, st6⟩) fun _ s7 ⟨I7, st7⟩ => ?_
      have B7 := I7.pinned (fp := [it]) (fun b hb => by
        have : b = it := by simpa using hb
        rw [this]
        exact stat I7 n5) (fun b hb => by
        have : b = it := by simpa using hb
        rw [this]
        obtain ⟨o, e, c, d⟩ := st7
        exact ⟨o, e, fun v z => by rw [d] at z; cases z⟩)
      refine thnF (pg.run _ s7 _ H5 y u _ B7 ru (step y H5 ⟨rfl, fun zs hz => by rw [I5.list_inj hz hys]; exact hy⟩)) fun _ s8 ⟨σ8, H8, I8, hw8, q8⟩ => ?_
      refine thnF (pt.run _ s8 σ8 H8 _ I8 q8) fun b s9 ⟨H9, I9, q9⟩ => ?_
      have fin : ∀ {s' : Shared} {H' : Hp}, Inv (blkH X s3 H3 scope ce [it] p) ([] ++ pinsAt [it] s7.heap) σ8 H' s' → Nx H' → ∃ m, m < n ∧ ∃ i H', Inv (blkH X s3 H3 scope ce [it] p) [] (wipe σ (own.map (·.2))) H' s' ∧ s'.heap.IsListIter it a i ∧ H' it = none ∧ W i m H' := fun {s' H'} I' nx => by
        obtain ⟨m', hm, w'⟩ := hNx H' nx
        have pin' : ∀ o, s7.heap.get? it = some o → s'.heap.get? it = some o ∧ H' it = none := fun o e =>
          let z := I'.pin (it, o) (List.mem_append_right _ (List.mem_append_right _ (mem_pinsAt (List.mem_singleton.mpr rfl) e)))
          ⟨z.1, z.2.1⟩
        obtain ⟨o, e, z⟩ := st7
        refine ⟨m', hm, i + 1, H', (I'.unpinned (pins := [])).weak (by rw [← hw8, wipe_length]) (fun j v e => ?_), ⟨o, (pin' o e).1, z⟩, (pin' o e).2, w'⟩
        rw [← hw8] at e
        exact (wipe_some e).1
      cases b with
      | false =>
        simp only [Bool.false_eq_true, if_false] at q9 ⊢
        exact fin I9 q9
      | true =>
        simp only [if_true] at q9 ⊢
        refine thnF (pe.run _ s9 σ8 H9 _ I9 q9) fun z s10 ⟨yv, H10, I10, r10, acc, hD10, hz10, nx⟩ => ?_
        exact app_ok (X := blkH X s3 H3 scope ce [it] p) I10 hD10 hz10 r10 fun s11 I11 => fin I11 nx
  exact codeAny_compStart_list loop (self X.A _ _ _ st4 loop)
/-- as a value -/
theorem pe_lcH {elt tg iter : Expr} {ifs : List Expr} {scope : Scope} {own : List (Str × Nat)} {pos : Pos} {tl : TE} {g : TG} {tt : TT} {te : TE} (hc : HotC X) (hN : X.N.Nodup) (hl : PE X iter tl) (ok : BlkOk X.N X.env.scope scope own)
    (hg : ∀ (s : Shared) (H : Hp) (C : Addr) (cl : List (Str × Addr)) (fp : List Addr) (p : Addr × Obj), Hot1 X.A p → PG (blkH X s H scope (compEnvC scope cl C X.env) fp p) tg g)
    (ht : ∀ (s : Shared) (H : Hp) (C : Addr) (cl : List (Str × Addr)) (fp : List Addr) (p : Addr × Obj), Hot1 X.A p → PTs (blkH X s H scope (compEnvC scope cl C X.env) fp p) ifs tt)
    (he : ∀ (s : Shared) (H : Hp) (C : Addr) (cl : List (Str × Addr)) (fp : List Addr) (p : Addr × Obj), Hot1 X.A p → PE (blkH X s H scope (compEnvC scope cl C X.env) fp p) elt te)
    (hs : ∀ x, foldedSetIterable iter X.env x = pure x := by intro _; rfl) :
    PE X (.ListComp elt [⟨tg, iter, ifs, 0⟩] scope pos) (tLc (iList X.K tl) g tt te (own.map (·.2))) := by
  refine ⟨fun pins s σ H Q I h => ?_⟩
  rw [eval_ListComp]
  refine lc_hot hc hN I hl ok hg ht he hs h fun D C s' m H' I' q hn f => ⟨m, hn, fun h'' sb => ?_⟩
  obtain ⟨f0, f1, f2, f3, f4, f5⟩ := f
  exact ⟨.ref D, H', I'.turned (t' := s'.toks) (fun b o hb e => (sb.2 b hb).trans e) f0 f1 f3 f4 f5, rfl, q⟩
/-- name = [..] on one line, the name a local -/
theorem ps_setLcH {i : Nat} {y : Str} {py : Pos} {elt tg iter : Expr} {ifs : List Expr} {scope : Scope} {own : List (Str × Nat)} {pos spos : Pos} {tl : TE} {g : TG} {tt : TT} {te : TE} (hc : HotC X) (hN : X.N.Nodup) (hy : X.N[i]? = some y) (hyl : X.env.scope.names.lookup y = some .local)
    (hsw : swapsWith (.ListComp elt [⟨tg, iter, ifs, 0⟩] scope pos) (some (.Name y py)) spos.line X.env = pure true) (hl : PE X iter tl) (ok : BlkOk X.N X.env.scope scope own)
    (hg : ∀ (s : Shared) (H : Hp) (C : Addr) (cl : List (Str × Addr)) (fp : List Addr) (p : Addr × Obj), Hot1 X.A p → PG (blkH X s H scope (compEnvC scope cl C X.env) fp p) tg g)
    (ht : ∀ (s : Shared) (H : Hp) (C : Addr) (cl : List (Str × Addr)) (fp : List Addr) (p : Addr × Obj), Hot1 X.A p → PTs (blkH X s H scope (compEnvC scope cl C X.env) fp p) ifs tt)
    (he : ∀ (s : Shared) (H : Hp) (C : Addr) (cl : List (Str × Addr)) (fp : List Addr) (p : Addr × Obj), Hot1 X.A p → PE (blkH X s H scope (compEnvC scope cl C X.env) fp p) elt te)
    (hs : ∀ x, foldedSetIterable iter X.env x = pure x := by intro _; rfl) :
    PS X (.Assign [.Name y py] (.ListComp elt [⟨tg, iter, ifs, 0⟩] scope pos) spos) (tAsg (tLc (iList X.K tl) g tt te (own.map (·.2))) (gName i)) := by
  refine ⟨fun pins s σ H D I h => ?_⟩
  rw [exec_Assign_Name_used _ _ _ _ hsw]
  refine wpAny_bind (wpAny_standAt (wpAny_bind ?_))
  have h : tLc (iList X.K tl) g tt te (own.map (·.2)) σ H (fun x H1 => gName i x σ H1 D.nx) := h
  show wpAny _ X.A (do let _ ← comprehension (.ListComp elt [⟨tg, iter, ifs, 0⟩] scope pos) scope X.env (firstIterPos [⟨tg, iter, ifs, 0⟩] pos) (newList []) false (eval iter X.env) (some (assign (.Name y py) X.env))) _ _ s
  refine wpAny_bind (thn (lc_hot (Qf := fun _ s' => SP X pins D .next s') hc hN I hl ok hg ht he hs h fun L C s' m H' I' q hn f => ?_) fun _ s' hq => wpAny_pure (wpAny_pure hq))
  show wpAny _ _ (assign (.Name y py) X.env (.ref L)) _ _ _
  refine wpAny_assign_Name (store_ok2 (v := V.ref L) I' hN hy (.inl hyl) rfl (fun s2 I2 ⟨a, sb, ha⟩ => ?_) (.inr hyl))
  obtain ⟨f0, f1, f2, f3, f4, f5⟩ := f
  have haC : C ≠ a := ha.elim (fun z => by rw [z]; exact f1) fun z => fun e => f4 y a z e.symm
  exact ⟨m, hn.sameBut sb haC, fun h3 sb3 => ⟨_, H', I2.turned (t' := s2.toks) (fun b o hb e => (sb3.2 b hb).trans e) f0 f1 f3 f4 f5, q⟩⟩
end
end UPH

set_option Elab.async false
set_option linter.all false
set_option maxRecDepth 100000
set_option maxHeartbeats 4000000
/-! a def of one argument, called in an except suite with the caught exception: it knows the exception's class -/
namespace UPH
open PySem PySem.Spec PyProof.Rows L2 HotX L2H
/-- the promise: by the class's address -/
abbrev SpE := Addr → Hp → VK → XK → Prop
structure FnE (P : Program) (w : World) (K : PySem.W.Frag) (mg : Str → Option Value) (base : Heap) (CX : CXT) (k : Nat) (f : Addr) (fd : FuncData) (x : Str) (sp : SpE) : Prop where
  run : ∀ (A : Around) (outer : List Env) (s : Shared) (H : Hp) (args : Args) (Q : VK) (E : XK) (p : Addr × Obj) (D : Addr), RoomH k A → Hot1 A p → PinOk outer H s p → Zc (.ref D) none p.2 → Env0 P w K mg base A outer s H → BindsTo s fd args [(x, .ref p.1)] → sp D H Q E →
    codeAny (model P w) A (.call (.ref f) args) (CR CX outer P w H s Q E) s
theorem fn_ofE {CX : CXT} {P : Program} {w : World} {K : PySem.W.Frag} {mg : Str → Option Value} {base : Heap} {k : Nat} {f : Addr} {name qual x : Str} {params : Arguments} {body : List Stmt} {scope : Scope} {dV kV doc pm cdv ct oc : Value} {an od : Option Addr}
    {osl : Array (Option Value)} {N : List Str} {sp : SpE} (lk : K.lookup f = some ⟨oc, od, .func (PySem.W.fnOf name qual params body scope dV kV doc pm an cdv ct), osl⟩) (hcd : PySem.W.codeIn K cdv qual = true) (S : FnScope N [x] scope)
    (hbody : ∀ (A : Around) (outer : List Env) (s : Shared) (H : Hp) (Q : VK) (E : XK) (p : Addr × Obj) (D : Addr), Hot1 A p → Zc (.ref D) none p.2 → RoomH k (A.deeper (envOfC qual scope s.heap.objs.size f cdv)) → sp D H Q E →
      ∃ t, PSs (cxH CX P w K mg base N qual scope f cdv A outer s H E p) body t ∧ t { nx := fun _ H' => Q .non H', rt := Q } (L2.start N [.ref p.1]) H) :
    FnE P w K mg base CX (k + 1) f (PySem.W.fnOf name qual params body scope dV kV doc pm an cdv ct) x sp := by
  refine ⟨fun A outer s H args Q E p D hr hot hpin hz e0 hb hsp => ?_⟩
  have KX : K.In s.heap := e0.mod.kin.keeps fun b o e => (e0.bs b o e).1
  have kinds : ∀ y ∈ [(x, Value.ref p.1)], scope.names.lookup y.1 = some .local ∨ (scope.names.lookup y.1 = some .cell ∧ ((cellsFrom (s.heap.objs.size + 1) scope.names []).lookup y.1).isSome = true) := fun y hy => by
    have : y = (x, Value.ref p.1) := List.mem_singleton.mp hy
    subst this
    exact (S.par x (List.mem_singleton.mpr rfl)).elim .inl fun q => .inr ⟨q, PySem.W.cellsFrom_some _ _ _ (.inl q)⟩
  refine codeAny_call_function hr.depth (KX _ _ lk) rfl S.co S.gen rfl (PySem.W.codeRec_of KX hcd) (hb _ _ _ _ (wpAny_newFunctionEnv_cells S.kind kinds fun env he s1 x1 => ?_))
  subst he
  refine ⟨(e0.mod.nolimit.keeps fun b o e => (e0.bs b o e).1).keeps x1.toInCall.keep, codeAny_func ?_⟩
  obtain ⟨t, ht, hq⟩ := hbody A outer s H Q E p D hot hz (hr.deeper _) hsp
  have I : Inv (cxH CX P w K mg base N qual scope f cdv A outer s H E p) [] (L2.start N [.ref p.1]) H s1 := inv_startH (us := [.ref p.1]) (ps := [x]) S hpin e0 rfl (.cons rfl .nil) x1
  refine wpAny_mono (ht.run [] s1 _ H _ I hq) (fun fl s' hs => ?_) fun e s' hs => hs
  cases fl with
  | ret u =>
    obtain ⟨v, σ', H', J, rv, q⟩ := hs
    exact ⟨v, H', J.os, J.bare, J.base, J.hok, rv, q⟩
  | next =>
    obtain ⟨σ', H', J, q⟩ := hs
    exact ⟨V.non, H', J.os, J.bare, J.base, J.hok, rfl, q⟩
  | brk =>
    obtain ⟨_, _, _, q⟩ := hs
    exact False.elim q
  | cont =>
    obtain ⟨_, _, _, q⟩ := hs
    exact False.elim q
theorem vals_ref1 {a : Addr} {us : List Value} (r : Vals [V.ref a] us) : us = [.ref a] := by
  cases r with
  | cons rx rr =>
    cases rr
    cases rx
    rfl
section
variable {X : Cx} {CX : CXT} {k : Nat} {f : Addr} {fd : FuncData} {ps : List Str} {sp : SpE} {E : L2.St → XK} {x m : Str} {q pos : Pos} {e : Expr} {t : TA}
/-- the call, the caught exception (at a, its class at D) being the argument -/
def tCallE (a D : Addr) (sp : SpE) (E : L2.St → XK) (t : TA) : TE := fun σ H Q => t σ H fun vs H1 => vs = [.ref a] ∧ sp D H1 Q (E σ)
theorem pe_callE {a D : Addr} {oe : Obj} (F : FnE X.prog X.w X.K X.mg X.base CX k f fd m sp) (hr : RoomH k X.A) (hot : Hot1 X.A (a, oe)) (hp : (a, oe) ∈ X.pn) (hz : Zc (.ref D) none oe) (hg : Gl X x) (hm : X.mg x = some (.ref f)) (hk : PySem.W.keepIn X.K (.ref f) = true) (hb : Binds X.K fd [m] []) (hx : ∀ σ, PassesAt CX X σ (E σ))
    (ha : PA X [e] t) (hdb : (x == ("__debug__" : Str)) = false := by decide) (he : starEach [e] X.env = (false, eval e X.env) :: starEach [] X.env := by rfl) (hpl : (backTo pos (starEach [] X.env)).any (·.1) = false := by rfl) :
    PE X (.Call (.Name x q) [e] [] pos) (tCallE a D sp E t) := by
  refine ⟨fun pins s σ H Q I h => ?_⟩
  refine wpAny_Call_Name_kw (ld_glob I hg hm ?_ hdb)
  refine PySem.W.callWith_K (h₀ := X.base) I.ok.mod.kin hk (thn (ha.run pos pins s σ H _ I h) fun us s1 ⟨vs, H1, I1, r, ev, qv⟩ => ⟨I1.kIn, ?_⟩) he hpl
  subst ev
  obtain rfl : us = [.ref a] := vals_ref1 r
  have b := hb s1 [.ref a] I1.kIn rfl
  have P1 := I1.pin (a, oe) (List.mem_append_left _ hp)
  have hpin : PinOk X.stack H1 s1 (a, oe) := ⟨P1.1, P1.2.1, fun hm => (List.mem_cons.mp (I1.stkSub a hm)).elim P1.2.2.1 P1.2.2.2.1, P1.2.2.2.2⟩
  refine wpAny_call (codeAny_mono (F.run X.A X.stack s1 H1 ⟨[.ref a], []⟩ Q (E σ) (a, oe) D hr hot hpin hz I1.env0 b qv) fun r s' hq => ?_)
  cases r with
  | error e => exact hx σ pins H1 s1 e s' I1 hq
  | ok fl =>
    cases fl with
    | ret u => exact I1.after hq
    | next => exact False.elim hq
    | brk => exact False.elim hq
    | cont => exact False.elim hq
/-- isinstance(e, c), e the pinned exception -/
theorem call_isP {a D : Addr} {oe : Obj} (hp : (a, oe) ∈ X.pn) (C : ExcC X.K D) (hz : Zc (.ref D) none oe) (hf : ∃ vs, oe.data = .fields vs) : CallR X (.builtin "isinstance") (rIsE X.K D a) := by
  intro pins s σ H xs us Q I r h
  obtain ⟨c, cv, b, rfl, hcv, e, q⟩ := h
  obtain ⟨u1, u2, rfl, rx, rt⟩ : ∃ u1 u2, us = [u1, u2] ∧ RelV (.ref a) u1 ∧ RelV c u2 := by
    cases r with
    | cons rx rr =>
      cases rr with
      | cons rt rr =>
        cases rr
        exact ⟨_, _, rfl, rx, rt⟩
  cases rx
  have ec := hcv _ rt
  subst ec
  obtain ⟨hget, _⟩ := I.pin (a, oe) (List.mem_append_left _ hp)
  obtain ⟨vs, hv⟩ := hf
  have J : PySem.W.InstAt s.heap a oe D none := by
    obtain ⟨oc, od, oda, osl⟩ := oe
    obtain ⟨h1, h2⟩ := hz
    dsimp only at h1 h2 hv
    subst h1 h2 hv
    exact ⟨hget, rfl, rfl, trivial⟩
  exact PySem.W.kia_one (PySem.W.handS_kitx_exc C.hg C.hk C.hs C.hd C.ha C.hn C.ht C.hm) I.kIn J e (fun z => nomatch z) fun tk => ⟨.bl b, H, I.kept (t' := tk) fun _ _ z => z, rfl, q⟩
/-- isinstance(e, (C, ..)), a new tuple of classes of the program -/
def rIsET (K : PySem.W.Frag) (D a : Addr) : List V → Hp → VK → Prop := fun xs H Q => ∃ (t : Addr) (cs : List Addr) (b : Bool), xs = [.ref a, .ref t] ∧ H t = some (.tup (cs.map V.ref)) ∧ PySem.W.kitAny K (.ref D) (cs.map Value.ref) = some b ∧ Q (.bl b) H
theorem vals_refs : ∀ (cs : List Addr) {us : List Value}, Vals (cs.map V.ref) us → us = cs.map Value.ref
  | [], us, r => by cases r; rfl
  | c :: t, us, r => by
    cases r with
    | cons rx rr =>
      cases rx
      rw [vals_refs t rr]
      rfl
theorem call_isPT {a D : Addr} {oe : Obj} (hp : (a, oe) ∈ X.pn) (C : ExcC X.K D) (hz : Zc (.ref D) none oe) (hf : ∃ vs, oe.data = .fields vs) : CallR X (.builtin "isinstance") (rIsET X.K D a) := by
  intro pins s σ H xs us Q I r h
  obtain ⟨t, cs, b, rfl, ht, e, q⟩ := h
  obtain ⟨u1, u2, rfl, rx, rt⟩ : ∃ u1 u2, us = [u1, u2] ∧ RelV (.ref a) u1 ∧ RelV (.ref t) u2 := by
    cases r with
    | cons rx rr =>
      cases rr with
      | cons rt rr =>
        cases rr
        exact ⟨_, _, rfl, rx, rt⟩
  cases rx
  cases rt
  obtain ⟨hget, _⟩ := I.pin (a, oe) (List.mem_append_left _ hp)
  obtain ⟨vs, hv⟩ := hf
  have J : PySem.W.InstAt s.heap a oe D none := by
    obtain ⟨oc, od, oda, osl⟩ := oe
    obtain ⟨h1, h2⟩ := hz
    dsimp only at h1 h2 hv
    subst h1 h2 hv
    exact ⟨hget, rfl, rfl, trivial⟩
  obtain ⟨its, rv, pt, _⟩ := I.tuple (a := t) (xs := cs.map V.ref) (.of ht)
  obtain ⟨o, ho, hc, n, hd⟩ := pt
  have ev := vals_refs cs rv
  obtain ⟨oc, od, oda, osl⟩ := o
  dsimp only at hc hd
  subst hc hd
  refine PySem.W.kia_tup (its := its) (n := n) (PySem.W.handS_kitx_exc C.hg C.hk C.hs C.hd C.ha C.hn C.ht C.hm) I.kIn J ho (by rw [ev]; exact e) (fun z => nomatch z) fun tk => ⟨.bl b, H, I.kept (t' := tk) fun _ _ z => z, rfl, q⟩
end
end UPH

set_option Elab.async false
set_option linter.all false
set_option maxRecDepth 100000
set_option maxHeartbeats 4000000
set_option pp.maxSteps 900
namespace UP
open PySem PySem.Spec PyProof.Rows L2 HotX L2H UPH
section
variable {P : Program} {w : World} {K : PySem.W.Frag} {mg : Str → Option Value} {base : Heap}
/-- the def x, called in a suite with the caught exception -/
def HasE (P : Program) (w : World) (K : PySem.W.Frag) (mg : Str → Option Value) (base : Heap) (CX : CXT) (k : Nat) (x y : Str) (sp : SpE) : Prop :=
  ∃ f fd, mg x = some (.ref f) ∧ PySem.W.keepIn K (.ref f) = true ∧ Binds K fd [y] [] ∧ FnE P w K mg base CX k f fd y sp
theorem hasE_of {CX : CXT} {x y : Str} {st : Stmt} {N : List Str} {k : Nat} {sp : SpE} (D : Df K mg x st) (S : FnScope N [y] (defScope st))
    (hb : ∀ (kV doc pm : Value) (an : Option Addr) (cdv ct : Value) (us : List Value), us.length = [y].length → bindArgs (PySem.W.fnOf x x (defArgs st) (defBody st) (defScope st) .none kV doc pm an cdv ct) ⟨us, []⟩ = pure ([y].zip us))
    (body : ∀ (f : Addr) (cdv : Value) (A : Around) (outer : List Env) (s : Shared) (H : Hp) (Q : VK) (E : XK) (p : Addr × Obj) (D : Addr), Hot1 A p → Zc (.ref D) none p.2 → RoomH k (A.deeper (envOfC x (defScope st) s.heap.objs.size f cdv)) → sp D H Q E →
      ∃ t, PSs (cxH CX P w K mg base N x (defScope st) f cdv A outer s H E p) (defBody st) t ∧ t { nx := fun _ H' => Q .non H', rt := Q } (L2.start N [.ref p.1]) H) :
    HasE P w K mg base CX (k + 1) x y sp := by
  obtain ⟨f, fd, g, F⟩ := D
  have F' := F
  obtain ⟨oc, od, kV, doc, pm, an, cdv, ct, osl, rfl, lk, hcd⟩ := F'.ex
  exact ⟨f, _, g, F.kp, F.binds hb, fn_ofE lk hcd S fun A outer s H Q E p D h z r q => body f cdv A outer s H Q E p D h z r q⟩
end
theorem pg_tupHK {X : Cx} {K : PySem.W.Frag} {es : List Expr} {k : Nat} {t : TGs} {n : Nat} {pos : Pos} (h : X.K = K) (hc : HotC X) (hp : PGs X es t)
    (hn : (assignEach es X.env).length = n := by rfl) (hst : (assignEach es X.env).findIdx? (fun z => z.1) = none := by rfl) : PG X (.Tuple es k pos) (gTup K n t) := by
  subst h
  exact pg_tupH hc hp hn hst
def mineL : List Str := ["InvalidKind", "InvalidNumber", "InvalidPosition", "NothingToUndo"]
def odd1 : List Str := ["Contradiction", "Impossible", "InvalidCommand", "InvalidCounts"]
def odd2 : List Str := ["InvalidEffects", "InvalidItems", "InvalidKinds", "InvalidRecord"]
def odd3 : List Str := ["InvalidSequence", "InvalidState", "InvalidText", "SameEffect"]
def odd4 : List Str := ["TooLong", "TooMany"]
def allL : List Str := mineL ++ (odd1 ++ (odd2 ++ (odd3 ++ odd4)))
/-- the classes stand there -/
structure CmgH (mg : Str → Option Value) (CA : Str → Addr) : Prop where
  all : ∀ n, n ∈ allL ++ [("PairError" : Str)] → mg n = some (.ref (CA n))
/-- what the class nm says of itself -/
structure ClsH (K : PySem.W.Frag) (CA : Str → Addr) (nm : Str) : Prop where
  ex : ExcC K (CA nm)
  em : PySem.W.exmOne K (.ref (CA nm)) (.ref (CA "PairError")) = some true
  ki : ∀ n, n ∈ allL → PySem.W.kitOne K (.ref (CA nm)) (.ref (CA n)) = some (decide (n = nm))
  kv : PySem.W.kitOne K (.ref (CA nm)) (.type "ValueError") = some true
section
variable {P : Program} {w : World} {K : PySem.W.Frag} {mg : Str → Option Value} {base : Heap} {CX : CXT}
/-! _law_class: slots 0:caught 1:odd 2:some 3:found 4:word 5:matches -/
abbrev s_law_class : Stmt := topS 55
theorem sc_law_class : FnScope ["caught", "odd", "some", "found", "word", "matches"] ["caught"] (defScope s_law_class) := ⟨rfl, rfl, rfl, by decide +kernel, rfl, by decide +kernel, by decide +kernel⟩
def sp_law_class (K : PySem.W.Frag) (CA : Str → Addr) : SpE := fun D H Q _ => ∃ nm, D = CA nm ∧ ClsH K CA nm ∧ nm ∈ mineL ∧ ∀ H', Same H H' → Q (.str nm) H'
theorem kit_noneH {CA : Str → Addr} {nm : Str} (C : ClsH K CA nm) (hn : nm ∈ mineL) : ∀ l : List Str, (∀ n ∈ l, n ∈ allL ∧ n ∉ mineL) → PySem.W.kitAny K (.ref (CA nm)) ((l.map CA).map Value.ref) = some false
  | [], _ => rfl
  | n :: t, h => by
    obtain ⟨h1, h2⟩ := h n (List.mem_cons_self ..)
    have e := C.ki n h1
    rw [decide_eq_false (fun z : n = nm => h2 (by rw [z]; exact hn))] at e
    exact kitAny_cons e (fun _ => kit_noneH C hn t fun x hx => h x (List.mem_cons_of_mem _ hx)) (fun z => by cases z)
theorem ok_law_class {CA : Str → Addr} (D : Df K mg "_law_class" s_law_class) (T : Tx mg) (CM : CmgH mg CA) : HasE P w K mg base CX 1 "_law_class" "caught" (sp_law_class K CA) := by
  refine hasE_of D sc_law_class (fun _ _ _ _ _ _ us hl => match us, hl with | [_], _ => rfl) (fun f cdv A outer s₀ H Q E p D1 h1 hz hr h => ?_)
  obtain ⟨nm, rfl, C, hn, q⟩ := h
  have CE := C.ex
  have hot : HotC (cxH CX P w K mg base ["caught", "odd", "some", "found", "word", "matches"] "_law_class" (defScope s_law_class) f cdv A outer s₀ H E p) := ⟨p, h1, List.mem_singleton.mpr rfl⟩
  have hp : (p.1, p.2) ∈ (cxH CX P w K mg base ["caught", "odd", "some", "found", "word", "matches"] "_law_class" (defScope s_law_class) f cdv A outer s₀ H E p).pn := List.mem_singleton.mpr rfl
  have hf : ∃ vs, p.2.data = .fields vs := by
    obtain ⟨_, vs, e, _⟩ := h1
    exact ⟨vs, e⟩
  refine ⟨_, (pss_cons (ps_set (i := 1) sc_law_class.nd rfl (by first | exact Or.inl rfl | exact Or.inr rfl) (pe_not (pe_callB (call_isP hp CE hz hf) (by rfl) T.n_isinstance (by decide +kernel) (pa_cons (pv 0) (pa_cons (pe_bltn (v := .ty "ValueError") (by rfl) T.n_ValueError (by decide +kernel) rfl) pa_nil)))))
    (pss_cons (ps_set (i := 1) sc_law_class.nd rfl (by first | exact Or.inl rfl | exact Or.inr rfl) (pe_or (pv 1) (pe_one (pe_callB (call_isPT hp CE hz hf) (by rfl) T.n_isinstance (by decide +kernel) (pa_cons (pv 0) (pa_cons (pe_tup (pa_cons (pe_glob (v := .ref (CA "Contradiction")) (by rfl) (CM.all "Contradiction" (by decide)) rfl) (pa_cons (pe_glob (v := .ref (CA "Impossible")) (by rfl) (CM.all "Impossible" (by decide)) rfl) (pa_cons (pe_glob (v := .ref (CA "InvalidCommand")) (by rfl) (CM.all "InvalidCommand" (by decide)) rfl) (pa_cons (pe_glob (v := .ref (CA "InvalidCounts")) (by rfl) (CM.all "InvalidCounts" (by decide)) rfl) pa_nil))))) pa_nil))))))
    (pss_cons (ps_set (i := 1) sc_law_class.nd rfl (by first | exact Or.inl rfl | exact Or.inr rfl) (pe_or (pv 1) (pe_one (pe_callB (call_isPT hp CE hz hf) (by rfl) T.n_isinstance (by decide +kernel) (pa_cons (pv 0) (pa_cons (pe_tup (pa_cons (pe_glob (v := .ref (CA "InvalidEffects")) (by rfl) (CM.all "InvalidEffects" (by decide)) rfl) (pa_cons (pe_glob (v := .ref (CA "InvalidItems")) (by rfl) (CM.all "InvalidItems" (by decide)) rfl) (pa_cons (pe_glob (v := .ref (CA "InvalidKinds")) (by rfl) (CM.all "InvalidKinds" (by decide)) rfl) (pa_cons (pe_glob (v := .ref (CA "InvalidRecord")) (by rfl) (CM.all "InvalidRecord" (by decide)) rfl) pa_nil))))) pa_nil))))))
    (pss_cons (ps_set (i := 1) sc_law_class.nd rfl (by first | exact Or.inl rfl | exact Or.inr rfl) (pe_or (pv 1) (pe_one (pe_callB (call_isPT hp CE hz hf) (by rfl) T.n_isinstance (by decide +kernel) (pa_cons (pv 0) (pa_cons (pe_tup (pa_cons (pe_glob (v := .ref (CA "InvalidSequence")) (by rfl) (CM.all "InvalidSequence" (by decide)) rfl) (pa_cons (pe_glob (v := .ref (CA "InvalidState")) (by rfl) (CM.all "InvalidState" (by decide)) rfl) (pa_cons (pe_glob (v := .ref (CA "InvalidText")) (by rfl) (CM.all "InvalidText" (by decide)) rfl) (pa_cons (pe_glob (v := .ref (CA "SameEffect")) (by rfl) (CM.all "SameEffect" (by decide)) rfl) pa_nil))))) pa_nil))))))
    (pss_cons (ps_set (i := 1) sc_law_class.nd rfl (by first | exact Or.inl rfl | exact Or.inr rfl) (pe_or (pv 1) (pe_one (pe_callB (call_isPT hp CE hz hf) (by rfl) T.n_isinstance (by decide +kernel) (pa_cons (pv 0) (pa_cons (pe_tup (pa_cons (pe_glob (v := .ref (CA "TooLong")) (by rfl) (CM.all "TooLong" (by decide)) rfl) (pa_cons (pe_glob (v := .ref (CA "TooMany")) (by rfl) (CM.all "TooMany" (by decide)) rfl) pa_nil))) pa_nil))))))
    (pss_cons (ps_set (i := 2) sc_law_class.nd rfl (by first | exact Or.inl rfl | exact Or.inr rfl) (pe_lst pa_nil))
    (pss_cons (ps_expr (pe_bm PySem.F.plainAttrs_list PySem.F.slot_list_append PySem.F.type_list_append mt_append (pv 2) (pa_cons (pe_tup (pa_cons pe_str (pa_cons (pe_callB (call_isP hp CE hz hf) (by rfl) T.n_isinstance (by decide +kernel) (pa_cons (pv 0) (pa_cons (pe_glob (v := .ref (CA "InvalidKind")) (by rfl) (CM.all "InvalidKind" (by decide)) rfl) pa_nil))) pa_nil))) pa_nil)))
    (pss_cons (ps_expr (pe_bm PySem.F.plainAttrs_list PySem.F.slot_list_append PySem.F.type_list_append mt_append (pv 2) (pa_cons (pe_tup (pa_cons pe_str (pa_cons (pe_callB (call_isP hp CE hz hf) (by rfl) T.n_isinstance (by decide +kernel) (pa_cons (pv 0) (pa_cons (pe_glob (v := .ref (CA "InvalidNumber")) (by rfl) (CM.all "InvalidNumber" (by decide)) rfl) pa_nil))) pa_nil))) pa_nil)))
    (pss_cons (ps_expr (pe_bm PySem.F.plainAttrs_list PySem.F.slot_list_append PySem.F.type_list_append mt_append (pv 2) (pa_cons (pe_tup (pa_cons pe_str (pa_cons (pe_callB (call_isP hp CE hz hf) (by rfl) T.n_isinstance (by decide +kernel) (pa_cons (pv 0) (pa_cons (pe_glob (v := .ref (CA "InvalidPosition")) (by rfl) (CM.all "InvalidPosition" (by decide)) rfl) pa_nil))) pa_nil))) pa_nil)))
    (pss_cons (ps_expr (pe_bm PySem.F.plainAttrs_list PySem.F.slot_list_append PySem.F.type_list_append mt_append (pv 2) (pa_cons (pe_tup (pa_cons pe_str (pa_cons (pe_callB (call_isP hp CE hz hf) (by rfl) T.n_isinstance (by decide +kernel) (pa_cons (pv 0) (pa_cons (pe_glob (v := .ref (CA "NothingToUndo")) (by rfl) (CM.all "NothingToUndo" (by decide)) rfl) pa_nil))) pa_nil))) pa_nil)))
    (pss_cons (ps_setLcH (i := 3) (own := [("word", 4), ("matches", 5)]) hot sc_law_class.nd rfl rfl (sw_true rfl rfl rfl (by decide +kernel)) (pv 2) (blkOk_by (N := ["caught", "odd", "some", "found", "word", "matches"]) (sc := defScope s_law_class) (by decide +kernel)) (fun _ _ _ _ _ p0 hp0 => (pg_tupHK (K := K) (n := 2) rfl ⟨p0, hp0, List.mem_singleton.mpr rfl⟩ (pgs_cons (pg_name (i := 4) sc_law_class.nd rfl (by first | exact Or.inl rfl | exact Or.inr rfl)) (pgs_cons (pg_name (i := 5) sc_law_class.nd rfl (by first | exact Or.inl rfl | exact Or.inr rfl)) pgs_nil)))) (fun _ _ _ _ _ p0 hp0 => pts_one (pt_val (pv 5))) (fun _ _ _ _ _ p0 hp0 => (pv 4)))
    (pss_one (ps_ret (pe_ifExp (PW.pt (pw_and (pt_cmpR op_eq (pe_callB call_len_seq (by rfl) T.n_len (by decide +kernel) (pa_cons (pv 3) pa_nil)) pe_int (nomark _)) (pw_and1 (pt_not (pt_val (pv 1)))))) (pe_ix ix_list (pv 3) pe_int (fun _ _ => rfl)) pe_str)))))))))))))), ?_⟩
  refine ⟨_, rfl, _, _, _, rfl, (fun u r => r), C.kv, true, rfl, ?_⟩
  have kA : ∀ g : List Str, (∀ n ∈ g, n ∈ allL ∧ n ∉ mineL) → PySem.W.kitAny K (.ref (CA nm)) ((g.map CA).map Value.ref) = some false := kit_noneH C hn
  refine ⟨_, rfl, _, rfl, iteF ⟨_, rfl, (by show 4 ≤ sizeLine; decide), fun t1 n1 => ⟨t1, odd1.map CA, false, rfl, upd_same, kA odd1 (by decide +kernel), ?_⟩⟩⟩
  have s1 : Same H (upd H t1 (.tup [.ref (CA "Contradiction"), .ref (CA "Impossible"), .ref (CA "InvalidCommand"), .ref (CA "InvalidCounts")])) := same_upd n1
  generalize upd H t1 (.tup [.ref (CA "Contradiction"), .ref (CA "Impossible"), .ref (CA "InvalidCommand"), .ref (CA "InvalidCounts")]) = H1 at *
  refine ⟨_, rfl, _, rfl, iteF ⟨_, rfl, (by show 4 ≤ sizeLine; decide), fun t2 n2 => ⟨t2, odd2.map CA, false, rfl, upd_same, kA odd2 (by decide +kernel), ?_⟩⟩⟩
  have s2 : Same H1 (upd H1 t2 (.tup [.ref (CA "InvalidEffects"), .ref (CA "InvalidItems"), .ref (CA "InvalidKinds"), .ref (CA "InvalidRecord")])) := same_upd n2
  generalize upd H1 t2 (.tup [.ref (CA "InvalidEffects"), .ref (CA "InvalidItems"), .ref (CA "InvalidKinds"), .ref (CA "InvalidRecord")]) = H2 at *
  refine ⟨_, rfl, _, rfl, iteF ⟨_, rfl, (by show 4 ≤ sizeLine; decide), fun t3 n3 => ⟨t3, odd3.map CA, false, rfl, upd_same, kA odd3 (by decide +kernel), ?_⟩⟩⟩
  have s3 : Same H2 (upd H2 t3 (.tup [.ref (CA "InvalidSequence"), .ref (CA "InvalidState"), .ref (CA "InvalidText"), .ref (CA "SameEffect")])) := same_upd n3
  generalize upd H2 t3 (.tup [.ref (CA "InvalidSequence"), .ref (CA "InvalidState"), .ref (CA "InvalidText"), .ref (CA "SameEffect")]) = H3 at *
  refine ⟨_, rfl, _, rfl, iteF ⟨_, rfl, (by show 2 ≤ sizeLine; decide), fun t4 n4 => ⟨t4, odd4.map CA, false, rfl, upd_same, kA odd4 (by decide +kernel), ?_⟩⟩⟩
  have s4 : Same H3 (upd H3 t4 (.tup [.ref (CA "TooLong"), .ref (CA "TooMany")])) := same_upd n4
  generalize upd H3 t4 (.tup [.ref (CA "TooLong"), .ref (CA "TooMany")]) = H4 at *
  refine ⟨Nat.zero_le _, fun l nl => ?_⟩
  have sl : Same H4 (upd H4 l (.lst [])) := same_upd nl
  have hl : (upd H4 l (.lst [])) l = some (.lst []) := upd_same
  have nlH : H l = none := (((s1.trans s2).trans s3).trans s4).free nl
  have sA : Same H (upd H4 l (.lst [])) := (((s1.trans s2).trans s3).trans s4).trans sl
  generalize upd H4 l (.lst []) = HA at *
  refine ⟨_, rfl, .inl ⟨rfl, _, SqL.of hl⟩, _, rfl, _, _, _, rfl, (fun u r => r), C.ki "InvalidKind" (by decide +kernel), (by show 2 ≤ sizeLine; decide), fun u0 m0 => ?_⟩
  have q0 : Same HA (upd HA u0 (.tup [.str "InvalidKind", .bl (decide (("InvalidKind" : Str) = nm))])) := same_upd m0
  have e0 : (upd HA u0 (.tup [.str "InvalidKind", .bl (decide (("InvalidKind" : Str) = nm))])) u0 = some (.tup [.str "InvalidKind", .bl (decide (("InvalidKind" : Str) = nm))]) := upd_same
  have hl := q0 _ _ hl
  have sA := sA.trans q0
  generalize upd HA u0 (.tup [.str "InvalidKind", .bl (decide (("InvalidKind" : Str) = nm))]) = HB0 at *
  refine ⟨l, _, _, rfl, rfl, hl, (by show 0 < sizeLine; decide), ?_⟩
  have b0 : But l HB0 (upd HB0 l (.lst ([] ++ [.ref u0]))) := but_upd
  have kk : ∀ b xs, HB0 b = some (.tup xs) → (upd HB0 l (.lst ([] ++ [.ref u0]))) b = some (.tup xs) := fun b xs e => b0 _ _ (fun z => by rw [z, hl] at e; cases e) e
  have e0 := kk _ _ e0
  have sA : Same H (upd HB0 l (.lst ([] ++ [.ref u0]))) := fun b o e => b0 _ _ (ne_of_none e nlH) (sA _ _ e)
  have hl : (upd HB0 l (.lst ([] ++ [.ref u0]))) l = some (.lst [.ref u0]) := upd_same
  clear kk b0 q0
  generalize upd HB0 l (.lst ([] ++ [.ref u0])) = HC0 at *
  refine ⟨_, rfl, .inl ⟨rfl, _, SqL.of hl⟩, _, rfl, _, _, _, rfl, (fun u r => r), C.ki "InvalidNumber" (by decide +kernel), (by show 2 ≤ sizeLine; decide), fun u1 m1 => ?_⟩
  have q1 : Same HC0 (upd HC0 u1 (.tup [.str "InvalidNumber", .bl (decide (("InvalidNumber" : Str) = nm))])) := same_upd m1
  have e1 : (upd HC0 u1 (.tup [.str "InvalidNumber", .bl (decide (("InvalidNumber" : Str) = nm))])) u1 = some (.tup [.str "InvalidNumber", .bl (decide (("InvalidNumber" : Str) = nm))]) := upd_same
  have hl := q1 _ _ hl
  have e0 := q1 _ _ e0
  have sA := sA.trans q1
  generalize upd HC0 u1 (.tup [.str "InvalidNumber", .bl (decide (("InvalidNumber" : Str) = nm))]) = HB1 at *
  refine ⟨l, _, _, rfl, rfl, hl, (by show 1 < sizeLine; decide), ?_⟩
  have b1 : But l HB1 (upd HB1 l (.lst ([.ref u0] ++ [.ref u1]))) := but_upd
  have kk : ∀ b xs, HB1 b = some (.tup xs) → (upd HB1 l (.lst ([.ref u0] ++ [.ref u1]))) b = some (.tup xs) := fun b xs e => b1 _ _ (fun z => by rw [z, hl] at e; cases e) e
  have e0 := kk _ _ e0
  have e1 := kk _ _ e1
  have sA : Same H (upd HB1 l (.lst ([.ref u0] ++ [.ref u1]))) := fun b o e => b1 _ _ (ne_of_none e nlH) (sA _ _ e)
  have hl : (upd HB1 l (.lst ([.ref u0] ++ [.ref u1]))) l = some (.lst [.ref u0, .ref u1]) := upd_same
  clear kk b1 q1
  generalize upd HB1 l (.lst ([.ref u0] ++ [.ref u1])) = HC1 at *
  refine ⟨_, rfl, .inl ⟨rfl, _, SqL.of hl⟩, _, rfl, _, _, _, rfl, (fun u r => r), C.ki "InvalidPosition" (by decide +kernel), (by show 2 ≤ sizeLine; decide), fun u2 m2 => ?_⟩
  have q2 : Same HC1 (upd HC1 u2 (.tup [.str "InvalidPosition", .bl (decide (("InvalidPosition" : Str) = nm))])) := same_upd m2
  have e2 : (upd HC1 u2 (.tup [.str "InvalidPosition", .bl (decide (("InvalidPosition" : Str) = nm))])) u2 = some (.tup [.str "InvalidPosition", .bl (decide (("InvalidPosition" : Str) = nm))]) := upd_same
  have hl := q2 _ _ hl
  have e0 := q2 _ _ e0
  have e1 := q2 _ _ e1
  have sA := sA.trans q2
  generalize upd HC1 u2 (.tup [.str "InvalidPosition", .bl (decide (("InvalidPosition" : Str) = nm))]) = HB2 at *
  refine ⟨l, _, _, rfl, rfl, hl, (by show 2 < sizeLine; decide), ?_⟩
  have b2 : But l HB2 (upd HB2 l (.lst ([.ref u0, .ref u1] ++ [.ref u2]))) := but_upd
  have kk : ∀ b xs, HB2 b = some (.tup xs) → (upd HB2 l (.lst ([.ref u0, .ref u1] ++ [.ref u2]))) b = some (.tup xs) := fun b xs e => b2 _ _ (fun z => by rw [z, hl] at e; cases e) e
  have e0 := kk _ _ e0
  have e1 := kk _ _ e1
  have e2 := kk _ _ e2
  have sA : Same H (upd HB2 l (.lst ([.ref u0, .ref u1] ++ [.ref u2]))) := fun b o e => b2 _ _ (ne_of_none e nlH) (sA _ _ e)
  have hl : (upd HB2 l (.lst ([.ref u0, .ref u1] ++ [.ref u2]))) l = some (.lst [.ref u0, .ref u1, .ref u2]) := upd_same
  clear kk b2 q2
  generalize upd HB2 l (.lst ([.ref u0, .ref u1] ++ [.ref u2])) = HC2 at *
  refine ⟨_, rfl, .inl ⟨rfl, _, SqL.of hl⟩, _, rfl, _, _, _, rfl, (fun u r => r), C.ki "NothingToUndo" (by decide +kernel), (by show 2 ≤ sizeLine; decide), fun u3 m3 => ?_⟩
  have q3 : Same HC2 (upd HC2 u3 (.tup [.str "NothingToUndo", .bl (decide (("NothingToUndo" : Str) = nm))])) := same_upd m3
  have e3 : (upd HC2 u3 (.tup [.str "NothingToUndo", .bl (decide (("NothingToUndo" : Str) = nm))])) u3 = some (.tup [.str "NothingToUndo", .bl (decide (("NothingToUndo" : Str) = nm))]) := upd_same
  have hl := q3 _ _ hl
  have e0 := q3 _ _ e0
  have e1 := q3 _ _ e1
  have e2 := q3 _ _ e2
  have sA := sA.trans q3
  generalize upd HC2 u3 (.tup [.str "NothingToUndo", .bl (decide (("NothingToUndo" : Str) = nm))]) = HB3 at *
  refine ⟨l, _, _, rfl, rfl, hl, (by show 3 < sizeLine; decide), ?_⟩
  have b3 : But l HB3 (upd HB3 l (.lst ([.ref u0, .ref u1, .ref u2] ++ [.ref u3]))) := but_upd
  have kk : ∀ b xs, HB3 b = some (.tup xs) → (upd HB3 l (.lst ([.ref u0, .ref u1, .ref u2] ++ [.ref u3]))) b = some (.tup xs) := fun b xs e => b3 _ _ (fun z => by rw [z, hl] at e; cases e) e
  have e0 := kk _ _ e0
  have e1 := kk _ _ e1
  have e2 := kk _ _ e2
  have e3 := kk _ _ e3
  have sA : Same H (upd HB3 l (.lst ([.ref u0, .ref u1, .ref u2] ++ [.ref u3]))) := fun b o e => b3 _ _ (ne_of_none e nlH) (sA _ _ e)
  have hl : (upd HB3 l (.lst ([.ref u0, .ref u1, .ref u2] ++ [.ref u3]))) l = some (.lst [.ref u0, .ref u1, .ref u2, .ref u3]) := upd_same
  clear kk b3 q3
  generalize upd HB3 l (.lst ([.ref u0, .ref u1, .ref u2] ++ [.ref u3])) = HC3 at *
  have vals : ∀ (i : Nat) (x : V), ([.ref u0, .ref u1, .ref u2, .ref u3] : List V)[i]? = some x → ∃ t n, x = .ref t ∧ mineL[i]? = some n ∧ HC3 t = some (.tup [.str n, .bl (decide (n = nm))]) := fun i x h => by
    have hi : i < 4 := (List.getElem?_eq_some_iff.mp h).1
    rcases (show i = 0 ∨ i = 1 ∨ i = 2 ∨ i = 3 by omega) with e | e | e | e
    all_goals
      subst e
      cases h
      refine ⟨_, _, rfl, rfl, ?_⟩
      assumption
  refine ⟨_, rfl, l, rfl, ⟨_, .of hl⟩, fun L nL => lc_list (K := K) (a := l) (xs := [.ref u0, .ref u1, .ref u2, .ref u3]) (fun i H' => Same HC3 H' ∧ H' L = some (.lst (((mineL.take i).filter (fun n => decide (n = nm))).map V.str))) ⟨same_upd nL, upd_same⟩ (fun i H' _ hP => .of (hP.1 _ _ hl)) (fun i x H2 ex hP => ?_) (fun H2 hP => ?_)⟩
  · obtain ⟨sm, hL⟩ := hP
    obtain ⟨t, n, rfl, en, ht⟩ := vals i x ex
    have hi : i < 4 := (List.getElem?_eq_some_iff.mp ex).1
    have tk : mineL.take (i + 1) = mineL.take i ++ [n] := take_snoc en
    refine ⟨t, _, rfl, .of (sm _ _ ht), rfl, _, _, rfl, _, _, rfl, rfl, rfl, _, rfl, _, rfl, ?_⟩
    by_cases c : n = nm
    · refine iteP (decide_eq_true c) ⟨_, rfl, _, hL, ?_, same_grow nL sm, ?_⟩
      · rw [List.length_map]
        refine small (Nat.le_trans (List.length_filter_le ..) ?_)
        rw [List.length_take]
        omega
      · rw [upd_same, tk, List.filter_append, show [n].filter (fun n => decide (n = nm)) = [n] by simp [c], List.map_append]
        rfl
    · refine iteN (decide_eq_false c) ⟨sm, ?_⟩
      rw [tk, List.filter_append, show [n].filter (fun n => decide (n = nm)) = [] by simp [c], List.append_nil]
      exact hL
  · obtain ⟨sm, hL⟩ := hP
    have fl : (mineL.take 4).filter (fun n => decide (n = nm)) = [nm] := by
      have : ∀ n ∈ mineL, (mineL.take 4).filter (fun m => decide (m = n)) = [n] := by decide +kernel
      exact this nm hn
    have hL : H2 L = some (.lst (((mineL.take 4).filter (fun n => decide (n = nm))).map V.str)) := hL
    rw [fl] at hL
    refine ⟨_, rfl, L, _, rfl, .inl (.of hL), rfl, _, rfl, iteP rfl ⟨_, rfl, _, rfl, iteP (b := !false) rfl ⟨_, rfl, L, _, 0, _, rfl, rfl, .of hL, rfl, q _ (sA.trans sm)⟩⟩⟩
end
end UP

set_option Elab.async false
set_option linter.all false
set_option maxRecDepth 100000
set_option maxHeartbeats 4000000
set_option pp.maxSteps 900
namespace UP
open PySem PySem.Spec PyProof.Rows L2 HotX L2H UPH
theorem passAt0 {X : Cx} {E : L2.St → XK} : ∀ σ, PassesAt CX0 X σ (E σ) := fun _ _ _ _ _ _ _ h => h.elim
/-- what the suite y = f(n) asks, by the class -/
def tsCls (i j : Nat) (sp : SpE) (a : Addr) (cls : Value) (d : Option Addr) : TS := fun D σ H => ∃ C, cls = .ref C ∧ d = none ∧ tAsg (tCallE a C sp (fun _ => E0) (tCons (tVar i) tNil)) (gName j) D σ H
theorem ps_try_cls {X : Cx} {x n y fn m : Str} {c : Value} {i j k : Nat} {body : List Stmt} {np py nq fq cp ap pos pos' : Pos} {tb : WX → TS} {Wout : WX} {sp : SpE} (G : HasE X.prog X.w X.K X.mg X.base CX0 k fn m sp) (hr : RoomH k X.A) (hs : X.stack = X.env :: X.outer) (hf : X.env.frame = some X.env.locals) (hN : X.N.Nodup)
    (hi : X.N[i]? = some n) (hln : X.env.kindOf n = some .local) (hj : X.N[j]? = some y) (hjl : X.env.scope.names.lookup y = some .local) (hc : Names X x c) (tk : L2N.Takes X Wout) (hg : Gl X fn)
    (hb : ∀ (W : WX) (pn : List (Addr × Obj)) (xe : Value → Shared → Prop), L2N.Takes (X.tr pn xe) W → PassesOwn (model X.prog X.w) X.A X.env xe → PSs (X.tr pn xe) body (tb W))
    (hfn : (fn == ("__debug__" : Str)) = false := by decide) (hn1 : (n == ("__debug__" : Str)) = false := by decide) (hn2 : (n == ("__classdict__" : Str)) = false := by decide)
    (hsw : ∀ a pn, swapsWith (.Call (.Name fn fq) [.Name n nq] [] cp) (some (.Name y py)) ap.line (X.suite a pn).env = pure false := by intro _ _; rfl)
    (he : ∀ a pn, starEach [.Name n nq] (X.suite a pn).env = (false, eval (.Name n nq) (X.suite a pn).env) :: starEach [] (X.suite a pn).env := by intro _ _; rfl) :
    PS X (.Try body [.ExceptHandler (some (.Name x np)) (some n) [.Assign [.Name y py] (.Call (.Name fn fq) [.Name n nq] [] cp) ap] pos'] [] [] pos) (fun D σ H => tb (wAs X.K c i (tsCls i j sp) Wout D) D σ H) := by
  obtain ⟨f, fd, g, kp, b, F⟩ := G
  refine L2N.ps_try_as hs hf hN hi hln hc tk hb fun a oe cls d pn hz hv => ⟨fun pins s σ H D I h => ?_⟩
  obtain ⟨C, rfl, rfl, h⟩ := h
  obtain ⟨vs, hv⟩ := hv
  have hot : Hot1 (X.suite a ((a, oe) :: pn)).A (a, oe) := ⟨rfl, vs, hv, hz.2.2 vs hv⟩
  have call : PE (X.suite a ((a, oe) :: pn)) (.Call (.Name fn fq) [.Name n nq] [] cp) (tCallE a C sp (fun _ => E0) (tCons (tVar i) tNil)) :=
    pe_callE (X := X.suite a ((a, oe) :: pn)) F ⟨hr.dp, hr.un⟩ hot List.mem_cons_self hz.zc hg g kp b passAt0 (pa_cons (pe_var (X := X.suite a ((a, oe) :: pn)) hi (.inl hln) hn1 hn2) pa_nil) hfn (he _ _)
  exact (pss_one (ps_set (X := X.suite a ((a, oe) :: pn)) (i := j) hN hj (.inl hjl) call (hsw _ _) (.inr hjl))).run pins s σ H D I h
end UP

set_option Elab.async false
set_option linter.all false
set_option maxRecDepth 100000
set_option maxHeartbeats 4000000
namespace UP
open PySem PySem.Spec PyProof.Rows L2
/-! ### written values -/
def Lit (σ : L2.St) (H0 : Hp) (t : TE) (d : Dat) : Prop := ∀ H (Q : VK), Same H0 H → (∀ H' v, Same H H' → Rp H' v d → Q v H') → t σ H Q
def Lits (σ : L2.St) (H0 : Hp) (t : TA) (ds : List Dat) : Prop := ∀ H (Q : List V → Hp → Prop), Same H0 H → (∀ H' vs, Same H H' → Paired (Rp H') vs ds → Q vs H') → t σ H Q
section
variable {σ : L2.St} {H0 : Hp}
theorem Lit.go {H : Hp} {t : TE} {d : Dat} {Q : VK} (h : Lit σ H t d) (q : ∀ H' v, Same H H' → Rp H' v d → Q v H') : t σ H Q := h H Q (Same.refl _) q
theorem lit_non : Lit σ H0 (tC .non) .non := fun H Q _ q => q H _ (Same.refl _) .non
theorem lit_int {n : Int} : Lit σ H0 (tC (.int n)) (.int n) := fun H Q _ q => q H _ (Same.refl _) (.int n)
theorem lit_bl {b : Bool} : Lit σ H0 (tC (.bl b)) (.bl b) := fun H Q _ q => q H _ (Same.refl _) (.bl b)
theorem lit_str {z : Str} : Lit σ H0 (tC (.str z)) (.str z) := fun H Q _ q => q H _ (Same.refl _) (.str z)
theorem lit_dic : Lit σ H0 tDNewK .dic := fun H Q _ q p np => q _ _ (same_upd np) (.dic upd_same)
theorem lit_var {i : Nat} {v : V} {d : Dat} (e : σ[i]? = some (some v)) (h : Rp H0 v d) : Lit σ H0 (tVar i) d := fun H Q s q => ⟨v, e, q H v (Same.refl _) (h.same s)⟩
theorem lit_val {t : TE} {v : V} {d : Dat} (h : ∀ H (Q : VK), Q v H → t σ H Q) (r : ∀ H, Rp H v d) : Lit σ H0 t d := fun H Q _ q => h H Q (q H v (Same.refl _) (r H))
theorem lits_nil : Lits σ H0 tNil [] := fun H Q _ q => q H [] (Same.refl _) .nil
theorem lits_cons {t : TE} {ts : TA} {d : Dat} {ds : List Dat} (h1 : Lit σ H0 t d) (h2 : Lits σ H0 ts ds) : Lits σ H0 (tCons t ts) (d :: ds) := fun H Q s q => h1 H _ s fun H1 v s1 r1 => h2 H1 _ (s.trans s1) fun H2 vs s2 r2 => q H2 (v :: vs) (s1.trans s2) (.cons (r1.same s2) r2)
theorem rps_same {H H' : Hp} {xs : List V} {ds : List Dat} (s : Same H H') (h : Paired (Rp H) xs ds) : Paired (Rp H') xs ds := Paired.imp (fun _ _ => Rp.same s) h
theorem lit_lst {ts : TA} {ds : List Dat} (h : Lits σ H0 ts ds) (l : ds.length ≤ 1000) : Lit σ H0 (tLst ts) (.lst ds) := fun H Q s q => h H _ s fun H1 vs s1 r => ⟨by rw [Paired.len r]; exact smallE (by omega), fun p np => q _ _ (s1.trans (same_upd np)) (.lst upd_same (rps_same (same_upd np) r))⟩
theorem lit_tup {ts : TA} {ds : List Dat} (h : Lits σ H0 ts ds) (l : ds.length ≤ 1000) : Lit σ H0 (tTup ts) (.tup ds) := fun H Q s q => h H _ s fun H1 vs s1 r => ⟨by rw [Paired.len r]; exact smallE (by omega), fun p np => q _ _ (s1.trans (same_upd np)) (.tup upd_same (rps_same (same_upd np) r))⟩
theorem lit_cat {t u : TE} {a b : List Dat} (h1 : Lit σ H0 t (.lst a)) (h2 : Lit σ H0 u (.lst b)) (l : a.length + b.length ≤ 1000) : Lit σ H0 (tOp rCat t u) (.lst (a ++ b)) := fun H Q s q => h1 H _ s fun H1 v s1 r1 => h2 H1 _ (s.trans s1) fun H2 w s2 r2 => by
  cases r1.same s2 with
  | lst e1 p1 =>
    cases r2 with
    | lst e2 p2 =>
      refine ⟨_, _, _, _, rfl, rfl, e1, e2, ?_, fun p np => q _ _ (s1.trans (s2.trans (same_upd np))) (.lst upd_same (rps_same (same_upd np) (Paired.app p1 p2)))⟩
      rw [Paired.len p1, Paired.len p2]
      exact smallE (by omega)
theorem rep_pair {α β : Type} {F : α → β → Prop} {xs : List α} {ys : List β} (h : Paired F xs ys) : ∀ n : Nat, Paired F (List.replicate n xs).flatten (List.replicate n ys).flatten
  | 0 => .nil
  | n + 1 => by
    rw [List.replicate_succ, List.replicate_succ, List.flatten_cons, List.flatten_cons]
    exact Paired.app h (rep_pair h n)
theorem lit_rep {t : TE} {a : List Dat} {k : Int} (h1 : Lit σ H0 t (.lst a)) (k0 : 0 ≤ k) (k1 : k ≤ 1000) (l : a.length * k.toNat ≤ 1000) : Lit σ H0 (tOp rRep t (tC (.int k))) (.lst (List.replicate k.toNat a).flatten) := fun H Q s q => h1 H _ s fun H1 v s1 r1 => by
  cases r1 with
  | lst e1 p1 =>
    refine ⟨_, k, _, rfl, rfl, e1, by omega, by omega, ?_, fun p np => q _ _ (s1.trans (same_upd np)) (.lst upd_same (rps_same (same_upd np) (rep_pair p1 _)))⟩
    rw [Paired.len p1]
    exact smallE (by omega)
end
/-- an index into a written list -/
theorem rp_at {H : Hp} {v : V} {ds : List Dat} {i : Int} (h : Rp H v (.lst ds)) (i0 : 0 ≤ i) (i1 : i.toNat < ds.length) : ∃ a xs x, v = .ref a ∧ H a = some (.lst xs) ∧ atI xs i = some x ∧ Rp H x ds[i.toNat] := by
  cases h with
  | lst e p =>
    obtain ⟨x, ex, hx⟩ := Paired.at' p (List.getElem?_eq_getElem i1)
    exact ⟨_, _, x, rfl, e, atI_ofB i0 ex, hx⟩
theorem lit_set {t : TE} {d : Dat} {i : Nat} {D : Ends} {rest : TS} {σ : L2.St} {H : Hp} (h : Lit σ H t d) (q : ∀ H' v, Same H H' → Rp H' v d → rest D (σ.set i (some v)) H') : tSeq (tAsg t (gName i)) rest D σ H := h H _ (Same.refl _) q
theorem lit_retIx {K : PySem.W.Frag} {t u : TE} {ds : List Dat} {D : Ends} {σ : L2.St} {H : Hp} (h : Lit σ H t (.lst ds)) (q : ∀ H' v, Same H H' → Rp H' v (.lst ds) → u σ H' (fun y H2 => rIxL K v y H2 D.rt)) : tRet (tOp (rIxL K) t u) D σ H := h H _ (Same.refl _) q
end UP

set_option Elab.async false
set_option linter.all false
set_option maxRecDepth 100000
set_option maxHeartbeats 4000000
set_option pp.maxSteps 600
namespace UP
open PySem PySem.Spec PyProof.Rows L2 HotX L2H UPH
theorem takes0N {X : Cx} : L2N.Takes X (fun _ _ _ _ => False) := fun _ _ x => by
  obtain ⟨_, _, _, _, _, _, _, _, _, _, _, _, _, _, _, _, z⟩ := x
  exact z.elim
/-! ### no list among the parts has this length -/
mutual
def Dat.cm (m : Nat) : Dat → Bool
  | .lst l => decide (l.length ≠ m) && Dat.cms m l
  | .tup l => Dat.cms m l
  | _ => true
def Dat.cms (m : Nat) : List Dat → Bool
  | [] => true
  | d :: t => Dat.cm m d && Dat.cms m t
end
theorem Rp.butL {H H' : Hp} {p : Addr} {zs : List V} {m : Nat} (hp : H p = some (.lst zs)) (hz : zs.length = m) (b : But p H H') {v : V} {d : Dat} (h : Rp H v d) : d.cm m = true → Rp H' v d := by
  refine Rp.rec (motive_1 := fun v d _ => d.cm m = true → Rp H' v d) (motive_2 := fun xs l _ => Dat.cms m l = true → Paired (Rp H') xs l) (fun _ => .non) (fun x _ => .bl x) (fun x _ => .int x) (fun x _ => .str x) ?_ ?_ ?_ (fun _ => .nil) ?_ h
  · intro a e _
    exact .dic (b _ _ (fun z => by rw [z, hp] at e; cases e) e)
  · intro a xs l e hl ih hc
    rw [Dat.cm] at hc
    have hc := Bool.and_eq_true_iff.mp hc
    refine .lst (b _ _ (fun z => ?_) e) (ih hc.2)
    rw [z, hp] at e
    cases e
    have := Paired.len hl
    exact of_decide_eq_true hc.1 (this.symm.trans hz)
  · intro a xs l e _ ih hc
    rw [Dat.cm] at hc
    exact .tup (b _ _ (fun z => by rw [z, hp] at e; cases e) e) (ih hc)
  · intro x y xs ys _ _ h1 h2 hc
    rw [Dat.cms] at hc
    have hc := Bool.and_eq_true_iff.mp hc
    exact .cons (h1 hc.1) (h2 hc.2)
theorem Rp.bag {H H' : Hp} {p cl : Addr} {n : Nat} (z : Bag H p cl n) (b : But p H H') {v : V} {d : Dat} (h : Rp H v d) (c : d.cm 5 = true) : Rp H' v d := by
  obtain ⟨q, hp, _⟩ := z
  exact h.butL hp rfl b c
theorem cms_mem {m : Nat} : ∀ {l : List Dat}, Dat.cms m l = true → ∀ d ∈ l, d.cm m = true
  | d :: t, h, x, hx => by
    rw [Dat.cms] at h
    have h := Bool.and_eq_true_iff.mp h
    rcases List.mem_cons.mp hx with e | e
    · rw [e]
      exact h.1
    · exact cms_mem h.2 x e
/-! ### small values -/
def Dat.sm : Dat → Bool
  | .non => true
  | .bl _ => true
  | .int _ => true
  | .str _ => true
  | .lst [.int _] => true
  | .lst [.str _] => true
  | _ => false
def Dat.pd : Dat → PyData
  | .non => .none
  | .bl b => .bool b
  | .int n => .int n
  | .str z => .str z
  | .lst [.int n] => .list [.int n]
  | .lst [.str z] => .list [.str z]
  | _ => .none
theorem sm_lst {l : List Dat} (h : (Dat.lst l).sm = true) : (∃ n, l = [.int n]) ∨ ∃ z, l = [.str z] := by
  match l with
  | [] => cases h
  | [x] =>
    cases x with
    | int n => exact .inl ⟨n, rfl⟩
    | str z => exact .inr ⟨z, rfl⟩
    | _ => cases h
  | x :: y :: t => cases x <;> cases h
theorem Rp.dpd {K : PySem.W.Frag} {H : Hp} {v : V} {d : Dat} (h : Rp H v d) (hs : d.sm = true) : Dp K H v d.pd := by
  cases h with
  | non => exact .non
  | bl b => exact .bl b
  | int n => exact .int n
  | str z => exact .str z
  | dic e => cases hs
  | tup e p => cases hs
  | lst e p =>
    rcases sm_lst hs with ⟨n, rfl⟩ | ⟨z, rfl⟩
    · cases p with
      | cons h1 h2 =>
        cases h2
        cases h1
        exact .lst (.of e) (.cons (.int n) .nil)
    · cases p with
      | cons h1 h2 =>
        cases h2
        cases h1
        exact .lst (.of e) (.cons (.str z) .nil)
theorem sm_cm {m : Nat} (hm : m ≠ 1) {d : Dat} (hs : d.sm = true) : d.cm m = true := by
  cases d with
  | lst l =>
    rcases sm_lst hs with ⟨n, rfl⟩ | ⟨z, rfl⟩
    · simp [Dat.cm, Dat.cms, hm.symm]
    · simp [Dat.cm, Dat.cms, hm.symm]
  | tup l => cases hs
  | dic => cases hs
  | _ => rw [Dat.cm] <;> simp
theorem shaped_i (n : Int) : SeqAt.shaped (.int n) = true := by
  unfold SeqAt.shaped
  rw [PyData.canLay0, PyData.depth] <;> simp
/-- a call that is refused, and the error that is due -/
inductive BadC (S : Sta) : Dat → Str → Prop where
  | pos (x : Dat) (hx : x.sm = true) (h : x.inI 0 (S.n - 1) = false) : BadC S (.tup [.str "partner", x]) "InvalidPosition"
  | kind (x y : Dat) (hx : x.sm = true) (hy : y.sm = true) (fx : x.fit) (sy : SeqAt.shaped y.pd = true) (h : x.kind = false) : BadC S (.tup [.str "arrive", x, y]) "InvalidKind"
  | num (x y : Dat) (hx : x.sm = true) (hy : y.sm = true) (fx : x.fit) (sy : SeqAt.shaped y.pd = true) (h : x.kind = true) (h2 : y.inI 1 1000000000000000000000000000000 = false) : BadC S (.tup [.str "arrive", x, y]) "InvalidNumber"
  | giv (x y : Dat) (hx : x.sm = true) (hy : y.sm = true) (sy : SeqAt.shaped y.pd = true) (h : x.inI 0 (numR S.st - 1) = false ∨ ∃ i, x = .int i ∧ x.inI 0 (numR S.st - 1) = true ∧ y.inI 1 (numR S.st - i) = false) : BadC S (.tup [.str "give_up", x, y]) "InvalidNumber"
theorem BadC.cm {S : Sta} {c : Dat} {nm : Str} (h : BadC S c nm) {m : Nat} (hm : m ≠ 1) : (Dat.tup [c, .str nm]).cm m = true := by
  cases h with
  | pos x hx h => simp [Dat.cm, Dat.cms, sm_cm hm hx]
  | kind x y hx hy fx sy h => simp [Dat.cm, Dat.cms, sm_cm hm hx, sm_cm hm hy]
  | num x y hx hy fx sy h h2 => simp [Dat.cm, Dat.cms, sm_cm hm hx, sm_cm hm hy]
  | giv x y hx hy sy h => simp [Dat.cm, Dat.cms, sm_cm hm hx, sm_cm hm hy]
theorem rp_tup2 {H : Hp} {v : V} {w : Str} {x : Dat} (h : Rp H v (.tup [.str w, x])) : ∃ t u, v = .ref t ∧ H t = some (.tup [.str w, u]) ∧ Rp H u x := by
  cases h with
  | tup e p =>
    cases p with
    | cons p0 p =>
      cases p0
      cases p with
      | cons p1 p =>
        cases p
        exact ⟨_, _, rfl, e, p1⟩
theorem rp_tup3 {H : Hp} {v : V} {w : Str} {x y : Dat} (h : Rp H v (.tup [.str w, x, y])) : ∃ t u z, v = .ref t ∧ H t = some (.tup [.str w, u, z]) ∧ Rp H u x ∧ Rp H z y := by
  cases h with
  | tup e p =>
    cases p with
    | cons p0 p =>
      cases p0
      cases p with
      | cons p1 p =>
        cases p with
        | cons p2 p =>
          cases p
          exact ⟨_, _, _, rfl, e, p1, p2⟩
theorem rp_pair {H : Hp} {v : V} {c : Dat} {w : Str} (h : Rp H v (.tup [c, .str w])) : ∃ t u, v = .ref t ∧ H t = some (.tup [u, .str w]) ∧ Rp H u c := by
  cases h with
  | tup e p =>
    cases p with
    | cons p0 p =>
      cases p with
      | cons p1 p =>
        cases p1
        cases p
        exact ⟨_, _, rfl, e, p0⟩
theorem nf_undo : NotF "undo" := ⟨by decide +kernel, by decide +kernel, by decide +kernel, by decide +kernel, by decide +kernel, by decide +kernel⟩
theorem str_ne {a b : Str} (h : ¬ a = b) : decide (V.str a = V.str b) = false := decide_eq_false fun z => h (V.str.inj z)
section
variable {P : Program} {w : World} {K : PySem.W.Frag} {mg : Str → Option Value} {base : Heap} {C : Addr}

def spX_law_apply (C CK CN : Addr) : Sp := fun vs H Q E => ∃ (p ap ar ab t : Addr) (S : Sta) (es : List Ent) (wd : Str) (v u : V) (d e : Dat), vs = [.ref p, .ref t, .int 1] ∧ StnH C H p ap ar ab S es ∧ H t = some (.tup [.str wd, v, u]) ∧ Rp H v d ∧ Rp H u e ∧ e.sm = true ∧ SeqAt.shaped e.pd = true ∧
  ((wd = "arrive" ∧ d.fit ∧ ((d.kind = false ∧ ∀ H', Same H H' → E (.ref CK) none H') ∨ (d.kind = true ∧ e.inI 1 1000000000000000000000000000000 = false ∧ ∀ H', Same H H' → E (.ref CN) none H'))) ∨
   (wd = "give_up" ∧ (d.inI 0 (numR S.st - 1) = false ∨ ∃ i, d = .int i ∧ d.inI 0 (numR S.st - 1) = true ∧ e.inI 1 (numR S.st - i) = false) ∧ ∀ H', Same H H' → E (.ref CN) none H') ∨
   (wd = "arrive" ∧ ∃ k c, v = .str k ∧ u = .int c ∧ KindOk k ∧ 1 ≤ c ∧ c ≤ 1000000000000000000000000000000 ∧ S.R.length ≤ 50000 ∧ S.B.length ≤ 500000 ∧ es.length ≤ 50000 ∧ ∀ H' r, Q (.int r) H'))
theorem okX_law_apply {CK CN : Addr} (D : Df K mg "_law_apply" s_law_apply) (TS : ClsT K mg C) (G_Station_arrive : HasMD P w K mg base C 3 "arrive" ["self", "kind", "count"] 2 "count" (.int 1) (sp_Station_arrive C)) (G_Station_give_up : HasMD P w K mg base C 3 "give_up" ["self", "index", "count"] 2 "count" (.int 1) (sp_Station_give_up C))
    (GX_Station_arrive : HasMX P w K mg base C 3 "arrive" ["self", "kind", "count"] (spX_Station_arrive C CK CN)) (GX_Station_give_up : HasMX P w K mg base C 3 "give_up" ["self", "index", "count"] (spX_Station_give_up C CN)) :
    HasX P w K mg base 4 "_law_apply" ["some", "call", "way"] (spX_law_apply C CK CN) := by
  refine hasX_of D sc_law_apply (fun _ _ _ _ _ _ us hl => match us, hl with | [_, _, _], _ => rfl) (fun vs H Q E h => ?_) (fun f cdv A outer s₀ H vs Q E hr h => ?_)
  · obtain ⟨_, _, _, _, _, _, _, _, _, _, _, _, rfl, _⟩ := h
    rfl
  · obtain ⟨p, ap, ar, ab, t, S, es, wd, v, u, d, e, rfl, z, ht, hv, hu, es1, es2, q⟩ := h
    refine ⟨_, (pss_cons (ps_if (pt_cmpR op_eq (pe_ix ix_tup (pv 1) pe_int (fun _ _ => rfl)) pe_str (nomark _)) (C8.pss_cut (ps_if (PW.pt (pw_and (pt_cmpR (op_eqD (Nat.lt_of_le_of_lt (Nat.add_le_add_left (show 64 ≤ 70 by decide) _) (room70 hr))) (pe_ix ix_tup (pv 1) pe_int (fun _ _ => rfl)) pe_int (nomark _)) (pw_and1 (pt_cmpR op_eq (pv 2) pe_int (nomark _))))) (pss_one (ps_ret (pe_methDO (pv 0) TS.cl G_Station_arrive (hr.mono (by omega)) (pa_cons (pe_ix ix_tup (pv 1) pe_int (fun _ _ => rfl)) pa_nil)))) pss_nil)
    (pss_one (ps_ret (pe_ifExp (pt_cmpR op_eq (pv 2) pe_int (nomark _)) (pe_methB (pv 0) TS.cl G_Station_arrive.m GX_Station_arrive (L2N.takes_of rfl rfl rfl rfl) (hr.mono (by omega)) (hr.mono (by omega)) (pa_cons (pe_ix ix_tup (pv 1) pe_int (fun _ _ => rfl)) (pa_cons (pe_ix ix_tup (pv 1) pe_int (fun _ _ => rfl)) pa_nil))) (pe_methNO (pv 0) TS.cl G_Station_arrive (hr.mono (by omega)) (pa_cons (pe_ix ix_tup (pv 1) pe_int (fun _ _ => rfl)) pa_nil) (pk_cons (pe_ix ix_tup (pv 1) pe_int (fun _ _ => rfl)) pk_nil)))))) pss_nil)
    (C8.pss_cut (ps_if (PW.pt (pw_and (pt_cmpR (op_eqD (Nat.lt_of_le_of_lt (Nat.add_le_add_left (show 64 ≤ 70 by decide) _) (room70 hr))) (pe_ix ix_tup (pv 1) pe_int (fun _ _ => rfl)) pe_int (nomark _)) (pw_and1 (pt_cmpR op_eq (pv 2) pe_int (nomark _))))) (pss_one (ps_ret (pe_methDO (pv 0) TS.cl G_Station_give_up (hr.mono (by omega)) (pa_cons (pe_ix ix_tup (pv 1) pe_int (fun _ _ => rfl)) pa_nil)))) pss_nil)
    (pss_one (ps_ret (pe_ifExp (pt_cmpR op_eq (pv 2) pe_int (nomark _)) (pe_methX (pv 0) TS.cl GX_Station_give_up (L2N.takes_of rfl rfl rfl rfl) (hr.mono (by omega)) (pa_cons (pe_ix ix_tup (pv 1) pe_int (fun _ _ => rfl)) (pa_cons (pe_ix ix_tup (pv 1) pe_int (fun _ _ => rfl)) pa_nil))) (pe_methNO (pv 0) TS.cl G_Station_give_up (hr.mono (by omega)) (pa_cons (pe_ix ix_tup (pv 1) pe_int (fun _ _ => rfl)) pa_nil) (pk_cons (pe_ix ix_tup (pv 1) pe_int (fun _ _ => rfl)) pk_nil))))))), ?_⟩
    have zn := z.stn
    have dpu : Dp K H u e.pd := hu.dpd es1
    by_cases ca : wd = "arrive"
    · subst ca
      obtain ⟨dx1, fs1, hp1, lk1⟩ := zn.at nf_arrive
      refine ⟨_, rfl, t, _, 0, _, rfl, rfl, .of ht, rfl, rfl, _, rfl, iteP (decide_eq_true rfl) ?_⟩
      refine ⟨fun σ' H' => σ' = [some (.ref p), some (.ref t), some (.int 1)] ∧ H' = H, ?_, fun σ' H1 hM => ?_⟩
      · refine ⟨_, rfl, t, _, 2, _, rfl, rfl, .of ht, rfl, e.pd, .int 1, dpu, .int _, es2, shaped_i 1, _, rfl, ?_⟩
        cases hb : PyData.eqv e.pd (.int 1) with
        | true => exact iteP rfl ⟨_, rfl, rfl, _, rfl, iteN (decide_eq_false (fun z => by cases z)) ⟨rfl, rfl⟩⟩
        | false => exact iteN rfl ⟨rfl, rfl⟩
      obtain ⟨rfl, rfl⟩ := hM
      refine ⟨_, rfl, rfl, _, rfl, iteP (decide_eq_true rfl) ?_⟩
      refine ⟨_, rfl, p, dx1, _, rfl, hp1, lk1, _, rfl, t, _, 1, _, rfl, rfl, .of ht, rfl, _, rfl, t, _, 2, _, rfl, rfl, .of ht, rfl, ?_⟩
      rcases q with ⟨_, fit, q⟩ | ⟨z, _⟩ | ⟨_, k, c, rfl, rfl, kk, c1, c2, lR, lB, lO, q⟩
      · exact .inr ⟨p, ap, ar, ab, S, _, v, u, d, e, rfl, zn, hv, hu, fit, q⟩
      · exact absurd z (by decide +kernel)
      · exact .inl ⟨p, ap, ar, ab, S, es, k, c, rfl, z, kk, c1, c2, lR, lB, lO, fun H' _ _ _ _ _ _ => q H' _⟩
    · rcases q with ⟨z, _⟩ | ⟨rfl, bad, q⟩ | ⟨z, _⟩
      · exact absurd z ca
      · obtain ⟨dx1, fs1, hp1, lk1⟩ := zn.at nf_give_up
        refine ⟨_, rfl, t, _, 0, _, rfl, rfl, .of ht, rfl, rfl, _, rfl, iteN (str_ne ca) ?_⟩
        refine ⟨fun σ' H' => σ' = [some (.ref p), some (.ref t), some (.int 1)] ∧ H' = H, ?_, fun σ' H1 hM => ?_⟩
        · refine ⟨_, rfl, t, _, 2, _, rfl, rfl, .of ht, rfl, e.pd, .int 1, dpu, .int _, es2, shaped_i 1, _, rfl, ?_⟩
          cases hb : PyData.eqv e.pd (.int 1) with
          | true => exact iteP rfl ⟨_, rfl, rfl, _, rfl, iteN (decide_eq_false (fun z => by cases z)) ⟨rfl, rfl⟩⟩
          | false => exact iteN rfl ⟨rfl, rfl⟩
        obtain ⟨rfl, rfl⟩ := hM
        refine ⟨_, rfl, rfl, _, rfl, iteP (decide_eq_true rfl) ?_⟩
        exact ⟨_, rfl, p, dx1, _, rfl, hp1, lk1, _, rfl, t, _, 1, _, rfl, rfl, .of ht, rfl, _, rfl, t, _, 2, _, rfl, rfl, .of ht, rfl, p, ap, ar, ab, S, _, v, u, d, e, rfl, zn, hv, hu, bad, q⟩
      · exact absurd z ca
/-! _law_outcome: slots 0:some 1:call 2:found 3:caught -/
abbrev s_law_outcome : Stmt := topS 56
theorem sc_law_outcome : FnScope ["some", "call", "found", "caught"] ["some", "call"] (defScope s_law_outcome) := ⟨rfl, rfl, rfl, by decide +kernel, rfl, by decide +kernel, by decide +kernel⟩
def sp_law_outcome (C : Addr) : Sp := fun vs H Q _ => ∃ (p ap ar ab : Addr) (S : Sta) (es : List Ent) (v : V), vs = [.ref p, v] ∧ StnH C H p ap ar ab S es ∧
  ((∃ c nm, Rp H v c ∧ BadC S c nm ∧ ∀ H', Same H H' → Q (.str nm) H') ∨
   (∃ t, v = .ref t ∧ H t = some (.tup [.str "undo"]) ∧ ((es = [] ∧ ∀ H', Same H H' → Q (.str "NothingToUndo") H') ∨ ∃ es' e, es = es' ++ [e] ∧ ∀ H', Fr p ap H H' → StnH C H' p ap e.ar e.ab e.S es' → Q (.str "fine") H')) ∨
   (∃ t k c, v = .ref t ∧ H t = some (.tup [.str "arrive", .str k, .int c]) ∧ KindOk k ∧ 1 ≤ c ∧ c ≤ 1000000000000000000000000000000 ∧ S.R.length ≤ 50000 ∧ S.B.length ≤ 500000 ∧ es.length ≤ 50000 ∧ ∀ H', Q (.str "fine") H'))
theorem ok_law_outcome {CA : Str → Addr} (D : Df K mg "_law_outcome" s_law_outcome) (TS : ClsT K mg C) (CM : CmgH mg CA) (C0 : ClsH K CA "InvalidKind") (C1 : ClsH K CA "InvalidNumber") (C2 : ClsH K CA "InvalidPosition") (C3 : ClsH K CA "NothingToUndo") (G_law_class : HasE P w K mg base CX0 1 "_law_class" "caught" (sp_law_class K CA))
    (G_Station_undo : HasM P w K mg base C 1 "undo" ["self"] (sp_Station_undo C)) (GX_Station_undo : HasMX P w K mg base C 1 "undo" ["self"] (spX_Station_undo C (CA "NothingToUndo"))) (GX_Station_partner_at : HasMX P w K mg base C 3 "partner_at" ["self", "position"] (spX_Station_partner_at C (CA "InvalidPosition")))
    (GX_law_apply : HasX P w K mg base 4 "_law_apply" ["some", "call", "way"] (spX_law_apply C (CA "InvalidKind") (CA "InvalidNumber"))) :
    Has P w K mg base 5 "_law_outcome" ["some", "call"] (sp_law_outcome C) := by
  refine has_of D sc_law_outcome (fun _ _ _ _ _ _ us hl => match us, hl with | [_, _], _ => rfl) (fun vs H Q E h => ?_) (fun f cdv A outer s₀ H vs Q E hr h => ?_)
  · obtain ⟨_, _, _, _, _, _, _, rfl, _⟩ := h
    rfl
  · obtain ⟨p, ap, ar, ab, S, es, v, rfl, z, q⟩ := h
    refine ⟨_, (pss_cons (ps_set (i := 2) sc_law_outcome.nd rfl (by first | exact Or.inl rfl | exact Or.inr rfl) pe_str)
    (pss_cons (ps_try_cls (i := 3) (j := 2) G_law_class (roomH_of (k := 1) (hr.mono (by omega))) rfl rfl sc_law_outcome.nd rfl rfl rfl rfl ⟨rfl, by decide, .inl (CM.all "PairError" (by decide))⟩ takes0N rfl (fun W pn xe tk _ => (pss_one (ps_if (pt_cmpR op_eq (pe_ix (ix_tupK (K := K) rfl) (pv 1) pe_int (fun _ _ => rfl)) pe_str (nomark _)) (pss_one (ps_expr (pe_meth0B (pv 0) TS.cl G_Station_undo GX_Station_undo tk (hr.mono (by omega)) (hr.mono (by omega))))) (pss_one (ps_if (pt_cmpR op_eq (pe_ix (ix_tupK (K := K) rfl) (pv 1) pe_int (fun _ _ => rfl)) pe_str (nomark _)) (pss_one (ps_expr (pe_methX (pv 0) TS.cl GX_Station_partner_at tk (hr.mono (by omega)) (pa_cons (pe_ix (ix_tupK (K := K) rfl) (pv 1) pe_int (fun _ _ => rfl)) pa_nil)))) (pss_one (ps_expr (pe_callXH GX_law_apply tk (hr.mono (by omega)) (by rfl) (pa_cons (pv 0) (pa_cons (pv 1) (pa_cons pe_int pa_nil))))))))))))
    (pss_one (ps_ret (pv 2))))), ?_⟩
    have zn := z.stn
    obtain ⟨dx1, fs1, hp1, lk1⟩ := zn.at nf_undo
    obtain ⟨dx2, fs2, hp2, lk2⟩ := zn.at nf_partner_at
    have raise : ∀ {nm : Str}, ClsH K CA nm → nm ∈ mineL → ∀ H1, (Q (.str nm) H1 → True) → (∀ H2, Same H1 H2 → Q (.str nm) H2) →
        wAs K (.ref (CA "PairError")) 3 (tsCls 3 2 (sp_law_class K CA)) (fun _ _ _ _ => False) { nx := tRet (tVar 2) { nx := fun _ H' => Q .non H', rt := Q }, rt := Q } (.ref (CA nm)) none [some (.ref p), some v, some (.str "fine"), none] H1 := fun {nm} Cn mem H1 _ k =>
      ⟨true, Cn.em, fun _ a na => ⟨CA nm, rfl, rfl, ⟨_, rfl, rfl, nm, rfl, Cn, mem, fun H2 s2 => ⟨_, rfl, k _ s2⟩⟩⟩, fun z => by cases z⟩
    rcases q with ⟨c, nm, hc, bad, q⟩ | ⟨t, rfl, ht, q⟩ | ⟨t, k, c, rfl, ht, kk, c1, c2, lR, lB, lO, q⟩
    · have kk : ∀ {m : Str}, m = nm → ∀ H1, Same H H1 → ∀ H2, Same H1 H2 → Q (.str m) H2 := fun {m} e H1 s1 H2 s2 => by
        rw [e]
        exact q _ (s1.trans s2)
      cases bad with
      | pos x hx h =>
        obtain ⟨t, u, rfl, ht, hu⟩ := rp_tup2 hc
        refine ⟨_, rfl, t, _, 0, _, rfl, rfl, .of ht, rfl, rfl, _, rfl, iteN (str_ne (by decide +kernel)) ⟨_, rfl, t, _, 0, _, rfl, rfl, .of ht, rfl, rfl, _, rfl, iteP (decide_eq_true rfl) ?_⟩⟩
        exact ⟨_, rfl, p, dx2, _, rfl, hp2, lk2, _, rfl, t, _, 1, _, rfl, rfl, .of ht, rfl, p, ap, ar, ab, S, _, u, x, rfl, zn, hu, h, fun H1 s1 => raise C2 (by decide +kernel) H1 (fun _ => trivial) (kk rfl H1 s1)⟩
      | kind x y hx hy fx sy h =>
        obtain ⟨t, u, z1, rfl, ht, hu, hz⟩ := rp_tup3 hc
        refine ⟨_, rfl, t, _, 0, _, rfl, rfl, .of ht, rfl, rfl, _, rfl, iteN (str_ne (by decide +kernel)) ⟨_, rfl, t, _, 0, _, rfl, rfl, .of ht, rfl, rfl, _, rfl, iteN (str_ne (by decide +kernel)) ?_⟩⟩
        exact ⟨_, rfl, _, rfl, p, ap, ar, ab, t, S, es, _, u, z1, x, y, rfl, z, ht, hu, hz, hy, sy, .inl ⟨rfl, fx, .inl ⟨h, fun H1 s1 => raise C0 (by decide +kernel) H1 (fun _ => trivial) (kk rfl H1 s1)⟩⟩⟩
      | num x y hx hy fx sy h h2 =>
        obtain ⟨t, u, z1, rfl, ht, hu, hz⟩ := rp_tup3 hc
        refine ⟨_, rfl, t, _, 0, _, rfl, rfl, .of ht, rfl, rfl, _, rfl, iteN (str_ne (by decide +kernel)) ⟨_, rfl, t, _, 0, _, rfl, rfl, .of ht, rfl, rfl, _, rfl, iteN (str_ne (by decide +kernel)) ?_⟩⟩
        exact ⟨_, rfl, _, rfl, p, ap, ar, ab, t, S, es, _, u, z1, x, y, rfl, z, ht, hu, hz, hy, sy, .inl ⟨rfl, fx, .inr ⟨h, h2, fun H1 s1 => raise C1 (by decide +kernel) H1 (fun _ => trivial) (kk rfl H1 s1)⟩⟩⟩
      | giv x y hx hy sy h =>
        obtain ⟨t, u, z1, rfl, ht, hu, hz⟩ := rp_tup3 hc
        refine ⟨_, rfl, t, _, 0, _, rfl, rfl, .of ht, rfl, rfl, _, rfl, iteN (str_ne (by decide +kernel)) ⟨_, rfl, t, _, 0, _, rfl, rfl, .of ht, rfl, rfl, _, rfl, iteN (str_ne (by decide +kernel)) ?_⟩⟩
        exact ⟨_, rfl, _, rfl, p, ap, ar, ab, t, S, es, _, u, z1, x, y, rfl, z, ht, hu, hz, hy, sy, .inr (.inl ⟨rfl, h, fun H1 s1 => raise C1 (by decide +kernel) H1 (fun _ => trivial) (kk rfl H1 s1)⟩)⟩
    · refine ⟨_, rfl, t, _, 0, _, rfl, rfl, .of ht, rfl, rfl, _, rfl, iteP (decide_eq_true rfl) ⟨_, rfl, p, dx1, _, rfl, hp1, lk1, ?_⟩⟩
      rcases q with ⟨rfl, q⟩ | ⟨es', e, rfl, q⟩
      · exact .inr ⟨p, ap, ar, ab, S, rfl, zn, fun H1 s1 => raise C3 (by decide +kernel) H1 (fun _ => trivial) fun H2 s2 => q _ (s1.trans s2)⟩
      · exact .inl ⟨p, ap, ar, ab, S, es', e, rfl, z, fun H1 f1 z1 => ⟨_, rfl, q _ f1 z1⟩⟩
    · refine ⟨_, rfl, t, _, 0, _, rfl, rfl, .of ht, rfl, rfl, _, rfl, iteN (str_ne (by decide +kernel)) ⟨_, rfl, t, _, 0, _, rfl, rfl, .of ht, rfl, rfl, _, rfl, iteN (str_ne (by decide +kernel)) ?_⟩⟩
      exact ⟨_, rfl, _, rfl, p, ap, ar, ab, t, S, es, _, .str k, .int c, .str k, .int c, rfl, z, ht, .str k, .int c, rfl, shaped_i c, .inr (.inr ⟨rfl, k, c, rfl, rfl, kk, c1, c2, lR, lB, lO, fun H1 r => ⟨_, rfl, q _⟩⟩)⟩
end
end UP

set_option Elab.async false
set_option linter.all false
set_option maxRecDepth 100000
set_option maxHeartbeats 4000000
set_option pp.maxSteps 600
namespace UP
open PySem PySem.Spec PyProof.Rows L2
theorem eqv_strs (ks : List Str) : PyData.eqv (.list (ks.map PyData.str)) (.list (ks.map PyData.str)) = true := by
  have gen : ∀ (ks : List Str), PyData.eqvAll (ks.map PyData.str) (ks.map PyData.str) = true := by
    intro rs
    induction rs with
    | nil => rfl
    | cons r t ih =>
      rw [List.map_cons, PyData.eqvAll, ih]
      simp [PyData.eqv]
  rw [PyData.eqv]
  exact gen ks
theorem dp_strs {K : PySem.W.Frag} {H : Hp} : ∀ (ks : List Str), DpAll K H (ks.map V.str) (ks.map PyData.str)
  | [] => .nil
  | k :: t => .cons (.str k) (dp_strs t)
def StrG (k : Str) : Prop := PyData.canLay0 (.str k) = true
theorem shaped_strs {ks : List Str} (h : ∀ k ∈ ks, StrG k) : SeqAt.shaped (.list (ks.map PyData.str)) = true := by
  have can : ∀ (ks : List Str), (∀ k ∈ ks, StrG k) → PyData.canLayAll0 (ks.map PyData.str) = true := by
    intro ks
    induction ks with
    | nil => intro _; rfl
    | cons k t ih =>
      intro h
      rw [List.map_cons, PyData.canLayAll0, ih fun x hx => h x (List.mem_cons_of_mem _ hx), show PyData.canLay0 (.str k) = true from h k (List.mem_cons_self ..)]
      rfl
  have dep : ∀ (ks : List Str), PyData.depthAll (ks.map PyData.str) ≤ 1 := by
    intro ks
    induction ks with
    | nil => exact Nat.zero_le _
    | cons k t ih =>
      rw [List.map_cons, PyData.depthAll]
      exact Nat.max_le.mpr ⟨by rw [PyData.depth]; omega, ih⟩
  unfold SeqAt.shaped
  rw [PyData.canLay0, can ks h, PyData.depth]
  have := dep ks
  exact decide_eq_true (by omega)

/-! ### what a station's lists are -/
def Own (ar ab : Addr) (es : List Ent) (x : Addr) : Prop := x = ar ∨ x = ab ∨ ∃ e ∈ es, x = e.ar ∨ x = e.ab
theorem StnH.own {C : Addr} {H : Hp} {p ap ar ab : Addr} {S : Sta} {es : List Ent} (z : StnH C H p ap ar ab S es) {x : Addr} (h : Own ar ab es x) : ∃ l, H x = some (.lst l) := by
  rcases h with rfl | rfl | ⟨e, he, h⟩
  · obtain ⟨l, h, _⟩ := z.rg
    exact ⟨l, h⟩
  · obtain ⟨l, h, _⟩ := z.bl
    exact ⟨l, h⟩
  · obtain ⟨xs, _, hp⟩ := z.ps
    have := ents_lst hp e he
    rcases h with rfl | rfl
    · exact this.1
    · exact this.2
theorem StnH.keepO {C : Addr} {H H' : Hp} {p ap ar ab : Addr} {S : Sta} {es : List Ent} (z : StnH C H p ap ar ab S es) (k : Tk H H') (k1 : ∀ o, H p = some o → H' p = some o) (k2 : ∀ o, H ap = some o → H' ap = some o) (ko : ∀ x, Own ar ab es x → ∀ o, H x = some o → H' x = some o) : StnH C H' p ap ar ab S es :=
  z.keep k k1 k2 (ko _ (.inl rfl)) (ko _ (.inr (.inl rfl))) fun e he => ⟨ko _ (.inr (.inr ⟨e, he, .inl rfl⟩)), ko _ (.inr (.inr ⟨e, he, .inr rfl⟩))⟩
/-- what stands apart -/
structure ApH (pb cl ap q ar ab : Addr) (es : List Ent) : Prop where
  a1 : ap ≠ pb
  a2 : ap ≠ cl
  a3 : ap ≠ q
  q1 : q ≠ pb
  q2 : q ≠ cl
  ow : ∀ x, Own ar ab es x → x ≠ pb ∧ x ≠ q
section
variable {C : Addr} {Ha Hb : Hp} {pb cl p ap ar ab m q mt : Addr} {n : Nat} {S : Sta} {es : List Ent} {M : Mod}
theorem StnH.p_ne (z : StnH C Ha p ap ar ab S es) {x : Addr} {o : HO} (h : Ha x = some o) (no : ∀ c d f, o ≠ .ins c d f) : x ≠ p := by
  obtain ⟨⟨dx, v, hp, _⟩, _⟩ := z
  exact ne_of h hp (no _ _ _)
theorem StnH.ap_l (z : StnH C Ha p ap ar ab S es) : ∃ l, Ha ap = some (.lst l) := by
  obtain ⟨xs, h, _⟩ := z.ps
  exact ⟨xs, h⟩
theorem StnH.p_i (z : StnH C Ha p ap ar ab S es) : ∃ d f, Ha p = some (.ins C d f) := by
  obtain ⟨⟨dx, v, hp, _⟩, _⟩ := z
  exact ⟨_, _, hp⟩
/-- the bag is drawn from -/
theorem sta_bag (zb : Bag Ha pb cl n) (zs : StnH C Ha p ap ar ab S es) (a1 : ap ≠ pb) (ow : ∀ x, Own ar ab es x → x ≠ pb) (b : But pb Ha Hb) : StnH C Hb p ap ar ab S es ∧ Tk Ha Hb := by
  obtain ⟨b0, h1, _⟩ := zb
  have tk : Tk Ha Hb := tk_but h1 (by intro _ y; cases y) b
  obtain ⟨d, f, hp⟩ := zs.p_i
  exact ⟨zs.keepO tk (b.at (ne_of hp h1 (by intro y; cases y))) (b.at a1) fun x hx => b.at (ow x hx), tk⟩
theorem mod_bag (zb : Bag Ha pb cl n) (zm : ModAt Ha m q mt M) (q1 : q ≠ pb) (b : But pb Ha Hb) : ModAt Hb m q mt M := by
  obtain ⟨b0, h1, _⟩ := zb
  exact ⟨b _ _ (ne_of zm.d h1 (by intro y; cases y)) zm.d, b _ _ q1 zm.q, b _ _ (ne_of zm.t h1 (by intro y; cases y)) zm.t⟩
/-- the station is used -/
theorem bag_sta (zb : Bag Ha pb cl n) (zs : StnH C Ha p ap ar ab S es) (a1 : ap ≠ pb) (a2 : ap ≠ cl) (f : Fr p ap Ha Hb) : Bag Hb pb cl n := by
  obtain ⟨b0, h1, h1c, _⟩ := id zb
  exact zb.keep (fun o e => f _ _ (zs.p_ne h1 (by intro _ _ _ y; cases y)) a1.symm e) (fun o e => f _ _ (zs.p_ne h1c (by intro _ _ _ y; cases y)) a2.symm e)
theorem mod_sta (zm : ModAt Ha m q mt M) (zs : StnH C Ha p ap ar ab S es) (a3 : ap ≠ q) (f : Fr p ap Ha Hb) : ModAt Hb m q mt M := by
  obtain ⟨l, h3⟩ := zs.ap_l
  exact ⟨f _ _ (zs.p_ne zm.d (by intro _ _ _ y; cases y)) (ne_of zm.d h3 (by intro y; cases y)) zm.d, f _ _ (zs.p_ne zm.q (by intro _ _ _ y; cases y)) a3.symm zm.q, f _ _ (zs.p_ne zm.t (by intro _ _ _ y; cases y)) (ne_of zm.t h3 (by intro y; cases y)) zm.t⟩
theorem tk_sta (zs : StnH C Ha p ap ar ab S es) (f : Fr p ap Ha Hb) : Tk Ha Hb := by
  obtain ⟨l, h3⟩ := zs.ap_l
  exact fun b xs e => f _ _ (zs.p_ne e (by intro _ _ _ y; cases y)) (ne_of e h3 (by intro y; cases y)) e
/-- the model is used -/
theorem bag_mod (zb : Bag Ha pb cl n) (zm : ModAt Ha m q mt M) (q1 : q ≠ pb) (q2 : q ≠ cl) (f : Mk3 m q mt Ha Hb) : Bag Hb pb cl n := by
  obtain ⟨b0, h1, h1c, _⟩ := id zb
  have ld : ∀ {x : Addr} {l : List V}, Ha x = some (.lst l) → x ≠ m ∧ x ≠ mt := fun {x l} e => ⟨ne_of e zm.d (by intro y; cases y), ne_of e zm.t (by intro y; cases y)⟩
  exact zb.keep (fun o e => f _ _ (ld h1).1 q1.symm (ld h1).2 e) (fun o e => f _ _ (ld h1c).1 q2.symm (ld h1c).2 e)
theorem sta_mod (zm : ModAt Ha m q mt M) (zs : StnH C Ha p ap ar ab S es) (a3 : ap ≠ q) (ow : ∀ x, Own ar ab es x → x ≠ q) (f : Mk3 m q mt Ha Hb) : StnH C Hb p ap ar ab S es ∧ Tk Ha Hb := by
  have ld : ∀ {x : Addr} {l : List V}, Ha x = some (.lst l) → x ≠ m ∧ x ≠ mt := fun {x l} e => ⟨ne_of e zm.d (by intro y; cases y), ne_of e zm.t (by intro y; cases y)⟩
  have tk : Tk Ha Hb := fun b xs e => f _ _ (ne_of e zm.d (by intro y; cases y)) (ne_of e zm.q (by intro y; cases y)) (ne_of e zm.t (by intro y; cases y)) e
  obtain ⟨d, g, hp⟩ := zs.p_i
  obtain ⟨l, h3⟩ := zs.ap_l
  refine ⟨zs.keepO tk (fun o e => f _ _ (ne_of hp zm.d (by intro y; cases y)) (ne_of hp zm.q (by intro y; cases y)) (ne_of hp zm.t (by intro y; cases y)) e) (fun o e => f _ _ (ld h3).1 a3 (ld h3).2 e) fun x hx o e => ?_, tk⟩
  obtain ⟨l, h⟩ := zs.own hx
  exact f _ _ (ld h).1 (ow x hx) (ld h).2 e
end
/-! ### what the law sees of a station -/
def seenD (S : Sta) (ops : List Op) : PyData := .list [dO5 S.st, .list (S.R.map dPv), .int S.n, .int S.m, .int (S.n - 2 * S.m - numR S.st), .list (ops.map dOp), .int ops.length]
section
variable {P : Program} {w : World} {K : PySem.W.Frag} {mg : Str → Option Value} {base : Heap} {C : Addr}
/-! _law_seen: slots 0:some 1:seen -/
abbrev s_law_seen : Stmt := topS 57
theorem sc_law_seen : FnScope ["some", "seen"] ["some"] (defScope s_law_seen) := ⟨rfl, rfl, rfl, by decide +kernel, rfl, by decide +kernel, by decide +kernel⟩
def sp_law_seen (C : Addr) : Sp := fun vs H Q _ => ∃ (p ap ar ab : Addr) (S : Sta) (ops : List Op), vs = [.ref p] ∧ Stn C H p ap ar ab S ops ∧ Nice 150000 3 (seenD S ops) ∧ ops.length ≤ 300 ∧ ∀ H', Same H H' → Q (.str (seenD S ops).shown) H'
theorem ok_law_seen (D : Df K mg "_law_seen" s_law_seen) (T : Tx mg) (TS : ClsT K mg C)
    (G_Station_current_state : HasM P w K mg base C 1 "current_state" ["self"] (sp_Station_current_state C)) (G_Station_waiting_positions : HasM P w K mg base C 1 "waiting_positions" ["self"] (sp_Station_waiting_positions C)) (G_Station_arrival_count : HasM P w K mg base C 1 "arrival_count" ["self"] (sp_Station_arrival_count C))
    (G_Station_pair_total : HasM P w K mg base C 1 "pair_total" ["self"] (sp_Station_pair_total C)) (G_Station_give_up_count : HasM P w K mg base C 2 "give_up_count" ["self"] (sp_Station_give_up_count C)) (G_Station_operations_done : HasM P w K mg base C 1 "operations_done" ["self"] (sp_Station_operations_done C)) (G_Station___len__ : HasM P w K mg base C 1 "__len__" ["self"] (sp_Station_len C)) : HasG P w K mg base 3 "_law_seen" ["some"] (sp_law_seen C) := by
  refine hasG_of D sc_law_seen (fun _ _ _ _ _ _ us hl => match us, hl with | [_], _ => rfl) (fun vs H Q E h => ?_) (fun f cdv A outer s₀ H vs Q E hr gd h => ?_)
  · obtain ⟨_, _, _, _, _, _, rfl, _⟩ := h
    rfl
  · obtain ⟨p, ap, ar, ab, S, ops, rfl, z5, nd, lO, qq⟩ := h
    refine ⟨_, (pss_cons (ps_set (i := 1) sc_law_seen.nd rfl (by first | exact Or.inl rfl | exact Or.inr rfl) (pe_lst (pa_cons (pe_meth0O (pv 0) TS.cl G_Station_current_state (hr.mono (by omega))) (pa_cons (pe_meth0O (pv 0) TS.cl G_Station_waiting_positions (hr.mono (by omega))) (pa_cons (pe_meth0O (pv 0) TS.cl G_Station_arrival_count (hr.mono (by omega))) (pa_cons (pe_meth0O (pv 0) TS.cl G_Station_pair_total (hr.mono (by omega))) pa_nil))))))
    (pss_one (ps_ret (pe_callB (call_reprV gd (room70 hr)) (by rfl) T.n_repr (by decide +kernel) (pa_cons (pe_op op_cat (pv 1) (pe_lst (pa_cons (pe_meth0O (pv 0) TS.cl G_Station_give_up_count (hr.mono (by omega))) (pa_cons (pe_meth0O (pv 0) TS.cl G_Station_operations_done (hr.mono (by omega))) (pa_cons (pe_callB (call_lenO G_Station___len__ (hr.mono (by omega))) (by rfl) T.n_len (by decide +kernel) (pa_cons (pv 0) pa_nil)) pa_nil))))) pa_nil))))), ?_⟩
    obtain ⟨dx1, fs1, hp1, lk1⟩ := z5.at nf_current_state
    refine ⟨_, rfl, p, dx1, _, rfl, hp1, lk1, p, ap, ar, ab, _, ops, rfl, z5, fun v6 hv6 => ?_⟩
    obtain ⟨dx2, fs2, hp2, lk2⟩ := z5.at nf_waiting_positions
    refine ⟨_, rfl, p, dx2, _, rfl, hp2, lk2, p, ap, ar, ab, _, ops, rfl, z5, fun H7 l7 s7 n7 ⟨ws, h7, h7p⟩ => ?_⟩
    have z7 := z5.same s7
    obtain ⟨dx3, fs3, hp3, lk3⟩ := z7.at nf_arrival_count
    refine ⟨_, rfl, p, dx3, _, rfl, hp3, lk3, p, ap, ar, ab, _, ops, rfl, z7, ?_⟩
    obtain ⟨dx4, fs4, hp4, lk4⟩ := z7.at nf_pair_total
    refine ⟨_, rfl, p, dx4, _, rfl, hp4, lk4, p, ap, ar, ab, _, ops, rfl, z7, (by show 4 ≤ sizeLine; decide), fun l8 n8 => ?_⟩
    have s8 := same_upd (o := .lst [v6, .ref l7, .int S.n, .int S.m]) n8
    have h8 : (upd H7 l8 (.lst [v6, .ref l7, .int S.n, .int S.m])) l8 = some (.lst [v6, .ref l7, .int S.n, .int S.m]) := upd_same
    generalize upd H7 l8 (.lst [v6, .ref l7, .int S.n, .int S.m]) = H8 at *
    have z8 := z7.same s8
    obtain ⟨dx5, fs5, hp5, lk5⟩ := z8.at nf_give_up_count
    refine ⟨_, rfl, _, rfl, p, dx5, _, rfl, hp5, lk5, p, ap, ar, ab, _, ops, rfl, z8, ?_⟩
    obtain ⟨dx6, fs6, hp6, lk6⟩ := z8.at nf_operations_done
    refine ⟨_, rfl, p, dx6, _, rfl, hp6, lk6, p, ap, ar, ab, _, ops, rfl, z8, by omega, fun H9 lo s9 no ⟨os, hos, hosp⟩ => ?_⟩
    have z9 := z8.same s9
    obtain ⟨dx7, fs7, hp7, lk7⟩ := z9.at nf_len
    refine ⟨_, rfl, p, dx7, fs7, rfl, hp7, p, ap, ar, ab, _, ops, rfl, z9, ops.length, rfl, by omega, (by show 3 ≤ sizeLine; decide), fun l9 n9 => ?_⟩
    have s10 := same_upd (o := .lst [.int (S.n - 2 * S.m - numR S.st), .ref lo, .int ops.length]) n9
    refine ⟨l8, l9, _, _, rfl, rfl, (s9.trans s10) _ _ h8, upd_same, (by show 7 ≤ sizeLine; decide), fun l10 n10 => ?_⟩
    have s11 := s10.trans (same_upd (o := .lst ([v6, .ref l7, .int S.n, .int S.m] ++ [.int (S.n - 2 * S.m - numR S.st), .ref lo, .int ops.length])) n10)
    obtain ⟨w1, w2, w3⟩ := nd.fits (by decide) (by decide)
    have s511 := s7.trans (s8.trans (s9.trans s11))
    have s811 := s8.trans (s9.trans s11)
    refine .inr ⟨l10, seenD S ops, rfl, ?_, w1, w2, w3, qq _ s511⟩
    exact .lst (.of upd_same) (.cons (dp_o5 (hv6.same s511)) (.cons (.lst (.of (s811 _ _ h7)) (dp_pv (pvs_same s811 h7p))) (.cons (.int _) (.cons (.int _) (.cons (.int _) (.cons (.lst (.of (s11 _ _ hos)) (dp_ops (Paired.imp (fun _ _ y => y.tk (stk s11)) hosp))) (.cons (.int _) .nil)))))))
end
end UP

set_option Elab.async false
set_option linter.all false
set_option maxRecDepth 100000
set_option maxHeartbeats 4000000
set_option pp.maxSteps 600
namespace UP
open PySem PySem.Spec PyProof.Rows L2
theorem pe_bmKW {X : Cx} {K : PySem.W.Frag} {e : Expr} {c : String} {r : V → List V → Hp → VK → Prop} {to : TE} {t : TA} (h : X.K = K) (p : PE X e (tBM X.K c r to t)) : PE X e (tBM K c r to t) := h ▸ p
section
variable {P : Program} {w : World} {K : PySem.W.Frag} {mg : Str → Option Value} {base : Heap}
/-! _law_shuffled: slots 0:bag 1:items 2:left 3:step -/
abbrev s_law_shuffled : Stmt := topS 47
theorem sc_law_shuffled : FnScope ["bag", "items", "left", "step"] ["bag", "items"] (defScope s_law_shuffled) := ⟨rfl, rfl, rfl, by decide +kernel, rfl, by decide +kernel, by decide +kernel⟩
def sp_law_shuffled : Sp := fun vs H Q _ => ∃ (p cl a : Addr) (n : Nat) (xs : List V), vs = [.ref p, .ref a] ∧ Bag H p cl n ∧ n ≤ 100000000 ∧ H a = some (.lst xs) ∧ a ≠ p ∧ xs.length ≤ 1000 ∧
  ∀ (H' : Hp) (L : Addr) (ys : List V), But p H H' → Bag H' p cl (n + 1000) → H L = none → H' L = some (.lst ys) → ys.length ≤ 1000 → (∀ y ∈ ys, y ∈ xs) → Q (.ref L) H'
theorem ok_law_shuffled (D : Df K mg "_law_shuffled" s_law_shuffled) (T : Tx mg) (G_law_draw : Has P w K mg base 2 "_law_draw" ["bag", "bound"] sp_law_draw) : Has P w K mg base 3 "_law_shuffled" ["bag", "items"] sp_law_shuffled := by
  refine has_of D sc_law_shuffled (fun _ _ _ _ _ _ us hl => match us, hl with | [_, _], _ => rfl) (fun vs H Q E h => ?_) (fun f cdv A outer s₀ H vs Q E hr h => ?_)
  · obtain ⟨_, _, _, _, _, rfl, _⟩ := h
    rfl
  · obtain ⟨p, cl, a, n, xs, rfl, z, ln, ha, ap, l4, q⟩ := h
    refine ⟨_, (pss_cons (ps_set (i := 2) sc_law_shuffled.nd rfl (by first | exact Or.inl rfl | exact Or.inr rfl) (pe_callTy call_list_of (by rfl) T.n_list (by decide +kernel) (pa_cons (pv 1) pa_nil)))
    (pss_one (ps_ret (pe_lc (own := [("step", 3)]) rfl sc_law_shuffled.nd (pi_range1 (by rfl) T.n_range (pa_cons (pe_callB call_len_seq (by rfl) T.n_len (by decide +kernel) (pa_cons (pv 1) pa_nil)) pa_nil)) (blkOk_by (N := ["bag", "items", "left", "step"]) (sc := defScope s_law_shuffled) (by decide +kernel)) (fun _ _ _ _ _ => (pg_name (i := 3) sc_law_shuffled.nd rfl (by first | exact Or.inl rfl | exact Or.inr rfl))) (fun _ _ _ _ _ => pts_nil) (fun _ _ _ _ _ => (pe_bmK (K := K) rfl (pe_bm PySem.F.plainAttrs_list PySem.F.slot_list_pop PySem.F.type_list_pop mt_popAt (pv 2) (pa_cons (pe_callH G_law_draw (hr.mono (by omega)) (by rfl) (pa_cons (pv 0) (pa_cons (pe_callB (call_len_seqK (K := K) rfl) (by rfl) T.n_len (by decide +kernel) (pa_cons (pv 2) pa_nil)) pa_nil))) pa_nil)))))))), ?_⟩
    refine ⟨_, rfl, a, xs, rfl, .inl (.of ha), fun l nl => ?_⟩
    have lp := z.ne nl
    have sl := same_upd (o := .lst xs) nl
    have hl : (upd H l (.lst xs)) l = some (.lst xs) := upd_same
    obtain ⟨_, _, hcl, _⟩ := id z
    have cL : cl ≠ l := ne_of_none hcl nl
    have z1 := z.same sl
    have ha1 := sl _ _ ha
    have s1 : Same H (upd H l (.lst xs)) := sl
    generalize upd H l (.lst xs) = H1 at *
    refine ⟨_, rfl, a, _, rfl, .inl (.of ha1), _, rfl, by omega, by omega, fun L nL => ?_⟩
    have Lp := z1.ne nL
    have lL : l ≠ L := ne_of_none hl nL
    have nlH : H l = none := nl
    have nLH : H L = none := s1.free nL
    have cLL : cl ≠ L := ne_of_none hcl nLH
    refine lc_range (lo := 0) (n := _) (fun i H' => ∃ zs ys : List V, But p H H' ∧ Bag H' p cl (n + i) ∧ H' l = some (.lst zs) ∧ zs.length + i = xs.length ∧ (∀ y ∈ zs, y ∈ xs) ∧ H' L = some (.lst ys) ∧ ys.length = i ∧ (∀ y ∈ ys, y ∈ xs))
      ⟨xs, [], (Same.but s1).trans (Same.but (same_upd nL)), z1.same (same_upd nL), same_upd nL _ _ hl, rfl, (fun _ h => h), upd_same, rfl, (fun _ h => by cases h)⟩ (fun i H3 hi hP => ?_) (fun H3 hP => ?_)
    · obtain ⟨zs, ys, b3, z3, hz, lz, mz, hL, ly, my⟩ := hP
      have hi : i < xs.length := by
        have hi : i < _ := hi
        omega
      refine ⟨rfl, yesT ⟨_, rfl, .inl ⟨rfl, _, SqL.of hz⟩, _, rfl, _, rfl, l, _, rfl, .inl (.of hz), p, cl, n + i, _, rfl, z3, by omega, by omega, wideB (by omega) (by omega), fun H4 r4 b4 z4 r40 r41 => ?_⟩⟩
      have lt : r4.toNat < zs.length := by omega
      have h4 := b4 _ _ lp hz
      have hL4 := b4 _ _ Lp hL
      have ix : seqIndex? r4 zs.length = some r4.toNat := by
        unfold seqIndex?
        have e1 : ¬ r4 < 0 := by omega
        simp only [e1, if_false]
        rw [if_pos]
        simp
        omega
      refine ⟨l, _, r4, r4.toNat, _, rfl, rfl, h4, by omega, by omega, ix, List.getElem?_eq_getElem lt, ys, ?_, small (by omega), zs.eraseIdx r4.toNat, ys ++ [zs[r4.toNat]], ?_, ?_, ?_, ?_, ?_, ?_, ?_, ?_⟩
      · rw [upd_ne lL.symm]
        exact hL4
      · intro b o nb eb
        have e1 : b ≠ L := ne_of_none eb nLH
        have e2 : b ≠ l := ne_of_none eb nlH
        rw [upd_ne e1, upd_ne e2]
        exact b4 b o nb (b3 b o nb eb)
      · exact (z4.keep (fun o e => by rw [upd_ne Lp.symm, upd_ne lp.symm]; exact e) (fun o e => by rw [upd_ne cLL, upd_ne cL]; exact e)).mono (by omega)
      · rw [upd_ne lL, upd_same]
      · rw [List.length_eraseIdx_of_lt lt]
        omega
      · intro y hy
        exact mz y (List.mem_of_mem_eraseIdx hy)
      · rw [upd_same]
      · rw [List.length_append, ly]
        rfl
      · intro y hy
        rcases List.mem_append.mp hy with h | h
        · exact my y h
        · rw [List.mem_singleton.mp h]
          exact mz _ (List.getElem_mem lt)
    · obtain ⟨zs, ys, b3, z3, hz, lz, mz, hL, ly, my⟩ := hP
      exact q H3 L ys b3 (z3.mono (by omega)) nLH hL (by omega) my
end
end UP

set_option Elab.async false
set_option linter.all false
set_option maxRecDepth 100000
set_option maxHeartbeats 4000000
set_option pp.maxSteps 600
namespace UP
open PySem PySem.Spec PyProof.Rows L2
theorem cut_mem {xs : List V} {lo hi : Option Int} {x : V} (h : x ∈ cutV xs lo hi) : x ∈ xs := by
  unfold cutV at h
  exact List.mem_of_mem_drop (List.mem_of_mem_take h)
/-- a call and the error that is due -/
def CallV (S : Sta) (H : Hp) (v : V) : Prop := ∃ c nm, Rp H v (.tup [c, .str nm]) ∧ BadC S c nm
theorem CallV.same {S : Sta} {H H' : Hp} {v : V} (s : Same H H') (h : CallV S H v) : CallV S H' v := by
  obtain ⟨c, nm, r, b⟩ := h
  exact ⟨c, nm, r.same s, b⟩
theorem CallV.butL {S : Sta} {H H' : Hp} {p : Addr} {zs : List V} (hp : H p = some (.lst zs)) (hz : zs.length ≠ 1) (b : But p H H') {v : V} (h : CallV S H v) : CallV S H' v := by
  obtain ⟨c, nm, r, bc⟩ := h
  exact ⟨c, nm, r.butL hp rfl b (bc.cm hz), bc⟩
theorem calls_of {S : Sta} {H : Hp} : ∀ {zs : List V} {l : List Dat}, Paired (Rp H) zs l → (∀ d ∈ l, ∃ c nm, d = .tup [c, .str nm] ∧ BadC S c nm) → ∀ v ∈ zs, CallV S H v
  | _, _, .nil, _, v, h => by cases h
  | _, _, .cons h t, k, v, hv => by
    rcases List.mem_cons.mp hv with e | e
    · rw [e]
      obtain ⟨c, nm, e2, b⟩ := k _ (List.mem_cons_self ..)
      rw [e2] at h
      exact ⟨c, nm, h, b⟩
    · exact calls_of t (fun d hd => k d (List.mem_cons_of_mem _ hd)) v e
theorem mem_pair {H : Hp} : ∀ {xs : List V} {l : List Dat}, Paired (Rp H) xs l → ∀ {x : V}, x ∈ xs → ∃ d, d ∈ l ∧ Rp H x d
  | _, _, .cons h t, x, hx => by
    rcases List.mem_cons.mp hx with e | e
    · rw [e]
      exact ⟨_, List.mem_cons_self .., h⟩
    · obtain ⟨d, hd, r⟩ := mem_pair t e
      exact ⟨d, List.mem_cons_of_mem _ hd, r⟩
/-! ### the menus -/
def noC : List Dat := [.int 0, .int (-1), .non, .str "1", .lst [.int 1], .bl true, .bl false, .int ((10 : Int) ^ ((30 : Int).toNat) + 1), .int ((10 : Int) ^ ((39 : Int).toNat))]
def noK : List Dat := [.non, .int 0, .str "", .str "A", .str "abcdefghi", .lst [.str "a"], .str "a b", .bl true, .str "a1"]
def noI (w : Int) : List Dat := [.int (-1), .non, .str "0", .lst [.int 0], .bl true, .bl false, .int w, .int (w + 1), .int ((10 : Int) ^ ((39 : Int).toNat))]
def cntD (d : Dat) : Bool := d.sm && (SeqAt.shaped d.pd && !d.inI 1 1000000000000000000000000000000)
def fitB (d : Dat) : Bool := match d with
  | .str z => decide (z.length ≤ 4000)
  | _ => true
theorem fit_ofB {d : Dat} (h : fitB d = true) : d.fit := by
  cases d with
  | str z => exact (show z.length ≤ 4000 from of_decide_eq_true h)
  | _ => exact True.intro
theorem noC_ok : ∀ d ∈ noC, cntD d = true := by decide +kernel
theorem noK_ok : ∀ d ∈ noK, (d.sm && (fitB d && !d.kind)) = true := by decide +kernel
theorem noC_of {d : Dat} (h : d ∈ noC) : d.sm = true ∧ SeqAt.shaped d.pd = true ∧ d.inI 1 1000000000000000000000000000000 = false := by
  have h := noC_ok d h
  unfold cntD at h
  rw [Bool.and_eq_true, Bool.and_eq_true] at h
  exact ⟨h.1, h.2.1, by simpa using h.2.2⟩
theorem noK_of {d : Dat} (h : d ∈ noK) : d.sm = true ∧ d.fit ∧ d.kind = false := by
  have h := noK_ok d h
  rw [Bool.and_eq_true, Bool.and_eq_true] at h
  exact ⟨h.1, fit_ofB h.2.1, by simpa using h.2.2⟩
theorem in_mono {d : Dat} {a b c : Int} (h : d.inI a b = false) (l : c ≤ b) : d.inI a c = false := by
  cases d with
  | int n =>
    have h : decide (a ≤ n ∧ n ≤ b) = false := h
    show decide (a ≤ n ∧ n ≤ c) = false
    have h := of_decide_eq_false h
    exact decide_eq_false (by omega)
  | _ => rfl
theorem p39 : (10 : Int) ^ ((39 : Int).toNat) = 1000000000000000000000000000000000000000 := by decide +kernel
theorem noI_of {w : Int} (w0 : 0 ≤ w) (w1 : w ≤ 100000) {d : Dat} (h : d ∈ noI w) : d.sm = true ∧ SeqAt.shaped d.pd = true ∧ d.inI 0 (w - 1) = false := by
  unfold noI at h
  simp only [List.mem_cons, List.not_mem_nil, or_false] at h
  have i : ∀ n : Int, ¬ (0 ≤ n ∧ n ≤ w - 1) → (Dat.int n).sm = true ∧ SeqAt.shaped (Dat.int n).pd = true ∧ (Dat.int n).inI 0 (w - 1) = false := fun n hn => ⟨rfl, shaped_i n, decide_eq_false hn⟩
  rcases h with e | e | e | e | e | e | e | e | e
  · rw [e]; exact i _ (by omega)
  · rw [e]; exact ⟨rfl, by decide +kernel, rfl⟩
  · rw [e]; exact ⟨rfl, by decide +kernel, rfl⟩
  · rw [e]; exact ⟨rfl, by decide +kernel, rfl⟩
  · rw [e]; exact ⟨rfl, by decide +kernel, rfl⟩
  · rw [e]; exact ⟨rfl, by decide +kernel, rfl⟩
  · rw [e]; exact i _ (by omega)
  · rw [e]; exact i _ (by omega)
  · rw [e]; exact i _ (by rw [p39]; omega)
/-- a call that is made in a comprehension's block -/
def C2 (H0 H : Hp) (v : V) : Prop := ∃ t u x d, v = .ref t ∧ H t = some (.tup [.ref u, .str "InvalidNumber"]) ∧ H u = some (.tup [.str "arrive", .str "a", x]) ∧ Rp H0 x d ∧ d ∈ noC
theorem C2.tk {H0 H H' : Hp} {v : V} (k : Tk H H') (h : C2 H0 H v) : C2 H0 H' v := by
  obtain ⟨t, u, x, d, e, h1, h2, r, m⟩ := h
  exact ⟨t, u, x, d, e, k _ _ h1, k _ _ h2, r, m⟩
theorem C2.call {S : Sta} {H0 H : Hp} {v : V} (s : Same H0 H) (h : C2 H0 H v) : CallV S H v := by
  obtain ⟨t, u, x, d, rfl, h1, h2, r, m⟩ := h
  obtain ⟨a1, a2, a3⟩ := noC_of m
  exact ⟨_, _, .tup h1 (.cons (.tup h2 (.cons (.str _) (.cons (.str _) (.cons (r.same s) .nil)))) (.cons (.str _) .nil)), .num (.str "a") d rfl a1 (by show ("a" : Str).length ≤ 4000; decide +kernel) a2 (by decide +kernel) a3⟩
section
variable {σ : L2.St} {H0 : Hp}
theorem lit_neg {n : Int} : Lit σ H0 (tUn (rU fun i => V.int (-i)) (tC (V.int n))) (.int (-n)) := lit_val (v := .int (-n)) (fun H Q q => ⟨n, rfl, q⟩) (fun H => .int _)
theorem lit_pow {a b : Int} (h : CPow a b) : Lit σ H0 (tOp (rI CPow fun i j => V.int (i ^ j.toNat)) (tC (V.int a)) (tC (V.int b))) (.int (a ^ b.toNat)) := lit_val (v := .int (a ^ b.toNat)) (fun H Q q => ⟨_, _, rfl, rfl, h, q⟩) (fun H => .int _)
theorem lit_add {t u : TE} {a b : Int} (h1 : Lit σ H0 t (.int a)) (h2 : Lit σ H0 u (.int b)) : Lit σ H0 (tOp (rI0 fun i j => V.int (i + j)) t u) (.int (a + b)) := fun H Q s q => h1 H _ s fun H1 v s1 r1 => h2 H1 _ (s.trans s1) fun H2 w s2 r2 => by
  cases r1
  cases r2
  exact ⟨_, _, rfl, rfl, q _ _ (s1.trans s2) (.int _)⟩
theorem lit_sub {t u : TE} {a b : Int} (h1 : Lit σ H0 t (.int a)) (h2 : Lit σ H0 u (.int b)) : Lit σ H0 (tOp (rI0 fun i j => V.int (i - j)) t u) (.int (a - b)) := fun H Q s q => h1 H _ s fun H1 v s1 r1 => h2 H1 _ (s.trans s1) fun H2 w s2 r2 => by
  cases r1
  cases r2
  exact ⟨_, _, rfl, rfl, q _ _ (s1.trans s2) (.int _)⟩
end
theorem one_rp {H : Hp} {vs : List V} {d : Dat} (p : Paired (Rp H) vs [d]) : ∃ v, vs = [v] ∧ Rp H v d := by
  cases p with
  | cons h t =>
    cases t
    exact ⟨_, rfl, h⟩
theorem lit_for {K : PySem.W.Frag} {tl : TE} {ds : List Dat} {g : TG} {tb rest : TS} {D : Ends} {σ : L2.St} {H : Hp} (h : Lit σ H tl (.lst ds)) (q : ∀ H' v, Same H H' → Rp H' v (.lst ds) → tSeq (tFor (iList K (fun _ H Q => Q v H)) g tb) rest D σ H') : tSeq (tFor (iList K tl) g tb) rest D σ H := h H _ (Same.refl _) q
theorem rp_lst {H : Hp} {v : V} {l : List Dat} (h : Rp H v (.lst l)) : ∃ a xs, v = .ref a ∧ H a = some (.lst xs) ∧ Paired (Rp H) xs l := by
  cases h with
  | lst e p => exact ⟨_, _, rfl, e, p⟩
/-- the list of calls grows -/
structure Acc (S : Sta) (H2 : Hp) (L : Addr) (xs : List V) (k : Nat) (H' : Hp) : Prop where
  s : Same H2 H'
  n : H2 L = none
  h : H' L = some (.lst xs)
  l : xs.length = k
  c : ∀ v ∈ xs, CallV S H' v
theorem Acc.same {S : Sta} {H2 H' H'' : Hp} {L : Addr} {xs : List V} {k : Nat} (a : Acc S H2 L xs k H') (s : Same H' H'') : Acc S H2 L xs k H'' := ⟨a.s.trans s, a.n, s _ _ a.h, a.l, fun v hv => (a.c v hv).same s⟩
theorem Acc.cat {S : Sta} {H2 H' H'' : Hp} {L L' b : Addr} {xs zs : List V} {k : Nat} (a : Acc S H2 L xs k H') (s : Same H' H'') (hb : H'' b = some (.lst zs)) (c : ∀ v ∈ zs, CallV S H'' v) (n : H'' L' = none) : Acc S H2 L' (xs ++ zs) (k + zs.length) (upd H'' L' (.lst (xs ++ zs))) := by
  have s2 := same_upd (o := .lst (xs ++ zs)) n
  refine ⟨(a.s.trans s).trans s2, (a.s.trans s).free n, upd_same, by rw [List.length_append, a.l], fun v hv => ?_⟩
  rcases List.mem_append.mp hv with h | h
  · exact ((a.c v h).same s).same s2
  · exact (c v h).same s2
theorem Acc.app {S : Sta} {H2 H' H'' : Hp} {L : Addr} {xs : List V} {k : Nat} {v : V} (a : Acc S H2 L xs k H') (s : Same H' H'') (k2 : 2 ≤ k) (c : CallV S H'' v) : Acc S H2 L (xs ++ [v]) (k + 1) (upd H'' L (.lst (xs ++ [v]))) := by
  have hL := s _ _ a.h
  have ne : xs.length ≠ 1 := by
    rw [a.l]
    omega
  refine ⟨same_grow a.n (a.s.trans s), a.n, upd_same, by rw [List.length_append, a.l]; rfl, fun z hz => ?_⟩
  rcases List.mem_append.mp hz with h | h
  · exact ((a.c z h).same s).butL hL ne but_upd
  · rw [List.mem_singleton.mp h]
    exact c.butL hL ne but_upd
section
variable {P : Program} {w : World} {K : PySem.W.Frag} {mg : Str → Option Value} {base : Heap} {C : Addr}
/-! _law_bad_calls: slots 0:bag 1:waiting 2:size 3:no_counts 4:bad 5:found 6:value -/
abbrev s_law_bad_calls : Stmt := topS 58
theorem sc_law_bad_calls : FnScope ["bag", "waiting", "size", "no_counts", "bad", "found", "value"] ["bag", "waiting", "size"] (defScope s_law_bad_calls) := ⟨rfl, rfl, rfl, by decide +kernel, rfl, by decide +kernel, by decide +kernel⟩
def sp_law_bad_calls : Sp := fun vs H Q _ => ∃ (p cl : Addr) (n : Nat) (S : Sta), vs = [.ref p, .int (numR S.st), .int S.n] ∧ Bag H p cl n ∧ n ≤ 100000000 ∧ 0 ≤ numR S.st ∧ numR S.st ≤ 100000 ∧ 0 ≤ S.n ∧ S.n ≤ 100000 ∧
  ∀ (H' : Hp) (L : Addr) (xs : List V), But p H H' → Bag H' p cl (n + 1) → H L = none → H' L = some (.lst xs) → xs.length ≤ 900 → (∀ v ∈ xs, CallV S H' v) → Q (.ref L) H'
theorem ok_law_bad_calls (D : Df K mg "_law_bad_calls" s_law_bad_calls) (T : Tx mg) (G_law_draw : Has P w K mg base 2 "_law_draw" ["bag", "bound"] sp_law_draw) : Has P w K mg base 3 "_law_bad_calls" ["bag", "waiting", "size"] sp_law_bad_calls := by
  refine has_of D sc_law_bad_calls (fun _ _ _ _ _ _ us hl => match us, hl with | [_, _, _], _ => rfl) (fun vs H Q E h => ?_) (fun f cdv A outer s₀ H vs Q E hr h => ?_)
  · obtain ⟨_, _, _, _, rfl, _⟩ := h
    rfl
  · obtain ⟨p, cl, n, S, rfl, zb, ln, w0, w1, n0, n1, q⟩ := h
    refine ⟨_, (pss_cons (ps_set (i := 3) sc_law_bad_calls.nd rfl (by first | exact Or.inl rfl | exact Or.inr rfl) (pe_lst (pa_cons pe_int (pa_cons (pe_un un_neg pe_int) (pa_cons pe_non (pa_cons pe_str (pa_cons (pe_lst (pa_cons pe_int pa_nil)) (pa_cons pe_bl (pa_cons pe_bl (pa_cons (pe_op op_add (pe_op op_pow pe_int pe_int) pe_int) (pa_cons (pe_op op_pow pe_int pe_int) pa_nil)))))))))))
    (pss_cons (ps_set (i := 4) sc_law_bad_calls.nd rfl (by first | exact Or.inl rfl | exact Or.inr rfl) (pe_ix ix_list (pv 3) (pe_callH G_law_draw (hr.mono (by omega)) (by rfl) (pa_cons (pv 0) (pa_cons pe_int pa_nil))) (fun _ _ => rfl)))
    (pss_cons (ps_set (i := 5) sc_law_bad_calls.nd rfl (by first | exact Or.inl rfl | exact Or.inr rfl) (pe_lst pa_nil))
    (pss_cons (ps_for PassesOwn.never rfl (pi_list (pe_lst (pa_cons pe_non (pa_cons pe_int (pa_cons pe_str (pa_cons pe_str (pa_cons pe_str (pa_cons (pe_lst (pa_cons pe_str pa_nil)) (pa_cons pe_str (pa_cons pe_bl (pa_cons pe_str pa_nil))))))))))) (pg_name (i := 6) sc_law_bad_calls.nd rfl (by first | exact Or.inl rfl | exact Or.inr rfl))
      (pss_one (ps_set (i := 5) sc_law_bad_calls.nd rfl (by first | exact Or.inl rfl | exact Or.inr rfl) (pe_op op_cat (pv 5) (pe_lst (pa_cons (pe_tup (pa_cons (pe_tup (pa_cons pe_str (pa_cons (pv 6) (pa_cons (pv 4) pa_nil)))) (pa_cons pe_str pa_nil))) (pa_cons (pe_tup (pa_cons (pe_tup (pa_cons pe_str (pa_cons (pv 6) (pa_cons pe_int pa_nil)))) (pa_cons pe_str pa_nil))) pa_nil)))))))
    (pss_cons (ps_set (i := 5) sc_law_bad_calls.nd rfl (by first | exact Or.inl rfl | exact Or.inr rfl) (pe_op op_cat (pv 5) (pe_lc (own := [("value", 6)]) rfl sc_law_bad_calls.nd (pi_list (pv 3)) (blkOk_by (N := ["bag", "waiting", "size", "no_counts", "bad", "found", "value"]) (sc := defScope s_law_bad_calls) (by decide +kernel)) (fun _ _ _ _ _ => (pg_name (i := 6) sc_law_bad_calls.nd rfl (by first | exact Or.inl rfl | exact Or.inr rfl))) (fun _ _ _ _ _ => pts_nil) (fun _ _ _ _ _ => (pe_tup (pa_cons (pe_tup (pa_cons pe_str (pa_cons pe_str (pa_cons (pv 6) pa_nil)))) (pa_cons pe_str pa_nil)))))))
    (pss_cons (ps_for PassesOwn.never rfl (pi_list (pe_lst (pa_cons (pe_un un_neg pe_int) (pa_cons pe_non (pa_cons pe_str (pa_cons (pe_lst (pa_cons pe_int pa_nil)) (pa_cons pe_bl (pa_cons pe_bl (pa_cons (pv 1) (pa_cons (pe_op op_add (pv 1) pe_int) (pa_cons (pe_op op_pow pe_int pe_int) pa_nil))))))))))) (pg_name (i := 6) sc_law_bad_calls.nd rfl (by first | exact Or.inl rfl | exact Or.inr rfl))
      (pss_one (ps_set (i := 5) sc_law_bad_calls.nd rfl (by first | exact Or.inl rfl | exact Or.inr rfl) (pe_op op_cat (pv 5) (pe_lst (pa_cons (pe_tup (pa_cons (pe_tup (pa_cons pe_str (pa_cons (pv 6) (pa_cons pe_int pa_nil)))) (pa_cons pe_str pa_nil))) (pa_cons (pe_tup (pa_cons (pe_tup (pa_cons pe_str (pa_cons (pv 6) (pa_cons (pv 4) pa_nil)))) (pa_cons pe_str pa_nil))) pa_nil)))))))
    (pss_cons (ps_for PassesOwn.never rfl (pi_list (pe_op op_cat (pe_slice sl_list (pv 3) po_none (po_some pe_int)) (pe_lst (pa_cons (pe_op op_add (pv 1) pe_int) (pa_cons (pe_op op_pow pe_int pe_int) pa_nil))))) (pg_name (i := 6) sc_law_bad_calls.nd rfl (by first | exact Or.inl rfl | exact Or.inr rfl))
      (pss_one (ps_expr (pe_bm PySem.F.plainAttrs_list PySem.F.slot_list_append PySem.F.type_list_append mt_append (pv 5) (pa_cons (pe_tup (pa_cons (pe_tup (pa_cons pe_str (pa_cons pe_int (pa_cons (pv 6) pa_nil)))) (pa_cons pe_str pa_nil))) pa_nil)))))
    (C8.pss_cut (ps_if (pt_cmpR op_gt (pv 1) pe_int (nomark _)) (pss_one (ps_set (i := 5) sc_law_bad_calls.nd rfl (by first | exact Or.inl rfl | exact Or.inr rfl) (pe_op op_cat (pv 5) (pe_lst (pa_cons (pe_tup (pa_cons (pe_tup (pa_cons pe_str (pa_cons (pe_op op_sub (pv 1) pe_int) (pa_cons pe_int pa_nil)))) (pa_cons pe_str pa_nil))) (pa_cons (pe_tup (pa_cons (pe_tup (pa_cons pe_str (pa_cons pe_int (pa_cons (pv 1) pa_nil)))) (pa_cons pe_str pa_nil))) pa_nil)))))) pss_nil)
    (pss_cons (ps_for PassesOwn.never rfl (pi_list (pe_lst (pa_cons (pe_un un_neg pe_int) (pa_cons pe_non (pa_cons pe_str (pa_cons (pe_lst (pa_cons pe_int pa_nil)) (pa_cons pe_bl (pa_cons pe_bl (pa_cons (pv 2) (pa_cons (pe_op op_add (pv 2) pe_int) (pa_cons (pe_op op_pow pe_int pe_int) pa_nil))))))))))) (pg_name (i := 6) sc_law_bad_calls.nd rfl (by first | exact Or.inl rfl | exact Or.inr rfl))
      (pss_one (ps_expr (pe_bm PySem.F.plainAttrs_list PySem.F.slot_list_append PySem.F.type_list_append mt_append (pv 5) (pa_cons (pe_tup (pa_cons (pe_tup (pa_cons pe_str (pa_cons (pv 6) pa_nil))) (pa_cons pe_str pa_nil))) pa_nil)))))
    (pss_one (ps_ret (pv 5)))))))))))), ?_⟩
    refine lit_set (d := .lst noC) (lit_lst (lits_cons lit_int (lits_cons lit_neg (lits_cons lit_non (lits_cons lit_str (lits_cons (lit_lst (lits_cons lit_int lits_nil) (Nat.le_of_ble_eq_true rfl)) (lits_cons lit_bl (lits_cons lit_bl (lits_cons (lit_add (lit_pow (a := 10) (b := 30) ⟨by decide, by decide, by decide⟩) lit_int) (lits_cons (lit_pow (a := 10) (b := 39) ⟨by decide, by decide, by decide⟩) lits_nil))))))))) (Nat.le_of_ble_eq_true rfl)) (fun H1 v1 s1 r1 => ?_)
    have zb1 := zb.same s1
    -- bad
    refine ⟨_, rfl, _, rfl, p, cl, n, 9, rfl, zb1, by omega, by decide, by decide, fun H2 r b2 zb2 r0 r9 => ?_⟩
    have r2 := r1.bag zb1 b2 (by decide +kernel)
    have lr : r.toNat < noC.length := by
      show r.toNat < 9
      omega
    obtain ⟨nl, nxs, x, rfl, hnl, ex, rx⟩ := rp_at r2 r0 lr
    obtain ⟨bd, hbd, rb⟩ : ∃ bd, bd ∈ noC ∧ Rp H2 x bd := ⟨_, List.getElem_mem lr, rx⟩
    obtain ⟨b1, bs, bf⟩ := noC_of hbd
    have pnl : Paired (Rp H2) nxs noC := by
      cases r2 with
      | lst e p =>
        rw [hnl] at e
        cases e
        exact p
    have lnx : nxs.length = 9 := Paired.len pnl
    refine ⟨nl, nxs, r, x, rfl, rfl, .of hnl, ex, ?_⟩
    have frH : ∀ {L : Addr}, H2 L = none → H L = none := fun {L} e => by
      cases z : H L with
      | none => rfl
      | some o =>
        obtain ⟨_, hp, _⟩ := zb2
        have := b2 _ _ (ne_of_none hp e).symm (s1 _ _ z)
        rw [e] at this
        cases this
    have b02 : But p H H2 := (Same.but s1).trans b2
    -- found
    refine ⟨Nat.zero_le _, fun f0 nf0 => ?_⟩
    have A0 : Acc S H2 f0 [] 0 (upd H2 f0 (.lst [])) := ⟨same_upd nf0, nf0, upd_same, rfl, fun v h => by cases h⟩
    generalize upd H2 f0 (.lst []) = H3 at *
    -- wrong kinds
    refine lit_for (lit_lst (lits_cons lit_non (lits_cons lit_int (lits_cons lit_str (lits_cons lit_str (lits_cons lit_str (lits_cons (lit_lst (lits_cons lit_str lits_nil) (Nat.le_of_ble_eq_true rfl)) (lits_cons lit_str (lits_cons lit_bl (lits_cons lit_str lits_nil))))))))) (Nat.le_of_ble_eq_true rfl)) (fun H4 v4 s4 r4 => ?_)
    obtain ⟨kl, kxs, rfl, hk, pk⟩ := rp_lst (l := noK) r4
    have lk : kxs.length = 9 := Paired.len pk
    refine ⟨kl, rfl, ⟨kxs, .of hk⟩, for_list (K := K) (a := kl) (xs := kxs) (fun i σ H' => ∃ L xs y6, σ = [some (.ref p), some (.int (numR S.st)), some (.int S.n), some (.ref nl), some x, some (.ref L), y6] ∧ Same H4 H' ∧ Acc S H2 L xs (2 * i) H') ⟨f0, [], _, rfl, Same.refl _, A0.same s4⟩ (fun i σ H' _ hP => by
      obtain ⟨L, xs, y6, _, s, _⟩ := hP
      exact .of (s _ _ hk)) (fun i y σ H5 ey hP => ?_) (fun σ H5 hP => ?_)⟩
    · obtain ⟨L, xs, y6, rfl, s5, A⟩ := hP
      obtain ⟨d, ed, rd⟩ := Paired.at pk ey
      obtain ⟨k1, k2, k3⟩ := noK_of (List.mem_of_getElem? ed)
      refine ⟨_, rfl, Lit.go (lit_lst (lits_cons (lit_tup (lits_cons (lit_tup (lits_cons lit_str (lits_cons (lit_var rfl (rd.same s5)) (lits_cons (lit_var rfl (rb.same A.s)) lits_nil))) (Nat.le_of_ble_eq_true rfl)) (lits_cons lit_str lits_nil)) (Nat.le_of_ble_eq_true rfl)) (lits_cons (lit_tup (lits_cons (lit_tup (lits_cons lit_str (lits_cons (lit_var rfl (rd.same s5)) (lits_cons lit_int lits_nil))) (Nat.le_of_ble_eq_true rfl)) (lits_cons lit_str lits_nil)) (Nat.le_of_ble_eq_true rfl)) lits_nil)) (Nat.le_of_ble_eq_true rfl)) (fun H6 v6 s6 r6 => ?_)⟩
      obtain ⟨b6, zs, rfl, hz, pz⟩ := rp_lst r6
      have lz : zs.length = 2 := Paired.len pz
      have li : i < 9 := by
        rw [← lk]
        exact (List.getElem?_eq_some_iff.mp ey).1
      have lA := A.l
      refine ⟨L, b6, xs, zs, rfl, rfl, s6 _ _ A.h, hz, smallE (by omega), fun L' nL' => ⟨L', xs ++ zs, _, rfl, (s5.trans s6).trans (same_upd nL'), ?_⟩⟩
      have := A.cat s6 hz (calls_of pz fun z hz => ?_) nL'
      · rw [lz] at this
        exact this
      · rcases List.mem_cons.mp hz with e | hz
        · exact ⟨_, _, e, .kind d bd k1 b1 k2 bs k3⟩
        · exact ⟨_, _, List.mem_singleton.mp hz, .kind d (.int 1) k1 rfl k2 (shaped_i 1) k3⟩
    obtain ⟨L, xs, y6, rfl, s5, A⟩ := hP
    rw [lk] at A
    clear A0 s4 r4 hk pk lk
    -- wrong counts
    have lA := A.l
    refine ⟨_, rfl, _, rfl, nl, rfl, ⟨nxs, .of (A.s _ _ hnl)⟩, fun M nM => lc_list (K := K) (a := nl) (xs := nxs) (fun i H' => Same H5 H' ∧ ∃ ys, H' M = some (.lst ys) ∧ ys.length = i ∧ ∀ v ∈ ys, C2 H2 H' v) ⟨same_upd nM, [], upd_same, rfl, fun v h => by cases h⟩ (fun i H' _ hP => .of (hP.1 _ _ (A.s _ _ hnl))) (fun i y H6 ey hP => ?_) (fun H6 hP => ?_)⟩
    · obtain ⟨s6, ys, hM, ly, cy⟩ := hP
      obtain ⟨d, ed, rd⟩ := Paired.at pnl ey
      have li : i < 9 := by
        rw [← lnx]
        exact (List.getElem?_eq_some_iff.mp ey).1
      refine ⟨rfl, yesT ⟨_, rfl, (by show 3 ≤ sizeLine; decide), fun u nu => ⟨(by show 2 ≤ sizeLine; decide), fun t nt => ?_⟩⟩⟩
      have su := same_upd (o := .tup [.str "arrive", .str "a", y]) nu
      have hu : (upd H6 u (.tup [.str "arrive", .str "a", y])) u = some (.tup [.str "arrive", .str "a", y]) := upd_same
      generalize upd H6 u (.tup [.str "arrive", .str "a", y]) = H7 at *
      have st := same_upd (o := .tup [.ref u, .str "InvalidNumber"]) nt
      have ht : (upd H7 t (.tup [.ref u, .str "InvalidNumber"])) t = some (.tup [.ref u, .str "InvalidNumber"]) := upd_same
      generalize upd H7 t (.tup [.ref u, .str "InvalidNumber"]) = H8 at *
      have s8 := su.trans st
      have hM8 := s8 _ _ hM
      have tk : Tk H8 (upd H8 M (.lst (ys ++ [.ref t]))) := tk_but hM8 (by intro _ z; cases z) but_upd
      refine ⟨_, hM8, small (by omega), same_grow nM (s6.trans s8), _, upd_same, by rw [List.length_append, ly]; rfl, fun v hv => ?_⟩
      rcases List.mem_append.mp hv with h | h
      · exact ((cy v h).tk (stk s8)).tk tk
      · rw [List.mem_singleton.mp h]
        exact C2.tk tk ⟨t, u, y, d, rfl, ht, st _ _ hu, rd, List.mem_of_getElem? ed⟩
    obtain ⟨s6, ys, hM, ly, cy⟩ := hP
    rw [lnx] at ly
    refine ⟨L, M, xs, ys, rfl, rfl, s6 _ _ A.h, hM, smallE (by omega), fun L' nL' => ?_⟩
    have A := A.cat s6 hM (fun v hv => (cy v hv).call (A.s.trans s6)) nL'
    rw [ly] at A
    generalize upd H6 L' (.lst (xs ++ ys)) = H7 at *
    generalize xs ++ ys = xs at *
    clear cy hM s6 s5 lA nM nL' ly
    -- wrong indexes
    refine lit_for (lit_lst (lits_cons lit_neg (lits_cons lit_non (lits_cons lit_str (lits_cons (lit_lst (lits_cons lit_int lits_nil) (Nat.le_of_ble_eq_true rfl)) (lits_cons lit_bl (lits_cons lit_bl (lits_cons (lit_var (by rfl) (.int _)) (lits_cons (lit_add (lit_var (by rfl) (.int _)) lit_int) (lits_cons (lit_pow (a := 10) (b := 39) ⟨by decide, by decide, by decide⟩) lits_nil))))))))) (Nat.le_of_ble_eq_true rfl)) (fun H8 v8 s8 r8 => ?_)
    obtain ⟨kl, kxs, rfl, hk, pk⟩ := rp_lst (l := noI (numR S.st)) r8
    have lk : kxs.length = 9 := Paired.len pk
    refine ⟨kl, rfl, ⟨kxs, .of hk⟩, for_list (K := K) (a := kl) (xs := kxs) (fun i σ H' => ∃ L xs y6, σ = [some (.ref p), some (.int (numR S.st)), some (.int S.n), some (.ref nl), some x, some (.ref L), y6] ∧ Same H8 H' ∧ Acc S H2 L xs (27 + 2 * i) H') ⟨L', xs, _, rfl, Same.refl _, A.same s8⟩ (fun i σ H' _ hP => by
      obtain ⟨L, xs, y6, _, s, _⟩ := hP
      exact .of (s _ _ hk)) (fun i y σ H9 ey hP => ?_) (fun σ H9 hP => ?_)⟩
    · obtain ⟨L, xs, y6, rfl, s5, A⟩ := hP
      obtain ⟨d, ed, rd⟩ := Paired.at pk ey
      obtain ⟨k1, k2, k3⟩ := noI_of w0 w1 (List.mem_of_getElem? ed)
      refine ⟨_, rfl, Lit.go (lit_lst (lits_cons (lit_tup (lits_cons (lit_tup (lits_cons lit_str (lits_cons (lit_var rfl (rd.same s5)) (lits_cons lit_int lits_nil))) (Nat.le_of_ble_eq_true rfl)) (lits_cons lit_str lits_nil)) (Nat.le_of_ble_eq_true rfl)) (lits_cons (lit_tup (lits_cons (lit_tup (lits_cons lit_str (lits_cons (lit_var rfl (rd.same s5)) (lits_cons (lit_var rfl (rb.same A.s)) lits_nil))) (Nat.le_of_ble_eq_true rfl)) (lits_cons lit_str lits_nil)) (Nat.le_of_ble_eq_true rfl)) lits_nil)) (Nat.le_of_ble_eq_true rfl)) (fun H6 v6 s6 r6 => ?_)⟩
      obtain ⟨b6, zs, rfl, hz, pz⟩ := rp_lst r6
      have lz : zs.length = 2 := Paired.len pz
      have li : i < 9 := by
        rw [← lk]
        exact (List.getElem?_eq_some_iff.mp ey).1
      have lA := A.l
      refine ⟨L, b6, xs, zs, rfl, rfl, s6 _ _ A.h, hz, smallE (by omega), fun L' nL' => ⟨L', xs ++ zs, _, rfl, (s5.trans s6).trans (same_upd nL'), ?_⟩⟩
      have := A.cat s6 hz (calls_of pz fun z hz => ?_) nL'
      · rw [lz] at this
        exact this
      · rcases List.mem_cons.mp hz with e | hz
        · exact ⟨_, _, e, .giv d (.int 1) k1 rfl (shaped_i 1) (.inl k3)⟩
        · exact ⟨_, _, List.mem_singleton.mp hz, .giv d bd k1 b1 bs (.inl k3)⟩
    obtain ⟨L, xs, y6, rfl, s5, A⟩ := hP
    rw [lk] at A
    clear s8 r8 hk pk lk
    have A : Acc S H2 L xs 45 H9 := A
    -- counts from the first one on
    have s9 := A.s
    refine ⟨_, rfl, 7, rfl, nl, nxs, rfl, .of (A.s _ _ hnl), fun c nc => Lit.go (lit_lst (lits_cons (lit_add (lit_var (by rfl) (.int _)) lit_int) (lits_cons (lit_pow (a := 10) (b := 39) ⟨by decide, by decide, by decide⟩) lits_nil)) (Nat.le_of_ble_eq_true rfl)) (fun H10 v10 s10 r10 => ?_)⟩
    obtain ⟨cs, ecs⟩ : ∃ cs, cs = cutV nxs none (some 7) := ⟨_, rfl⟩
    rw [← ecs] at s10
    have lcs : cs.length ≤ 9 := by
      rw [ecs, ← lnx]
      exact cutV_length _ _ _
    have sc := same_upd (o := .lst cs) nc
    have hc : (upd H9 c (.lst cs)) c = some (.lst cs) := upd_same
    generalize upd H9 c (.lst cs) = H9c at *
    obtain ⟨bw, ws, rfl, hw, pw⟩ := rp_lst r10
    have lws : ws.length = 2 := Paired.len pw
    refine ⟨c, bw, cs, ws, rfl, rfl, s10 _ _ hc, hw, smallE (by omega), fun g ng => ?_⟩
    have sg := same_upd (o := .lst (cs ++ ws)) ng
    have hg : (upd H10 g (.lst (cs ++ ws))) g = some (.lst (cs ++ ws)) := upd_same
    have gL : g ≠ L := (ne_of_none (s10 _ _ (sc _ _ A.h)) ng).symm
    have Ag := A.same (sc.trans (s10.trans sg))
    have vals : ∀ y ∈ cs ++ ws, ∃ d, Rp (upd H10 g (.lst (cs ++ ws))) y d ∧ d.sm = true ∧ SeqAt.shaped d.pd = true ∧ d.inI 1 (numR S.st) = false := fun y hy => by
      rcases List.mem_append.mp hy with h | h
      · rw [ecs] at h
        obtain ⟨d, hd, rd⟩ := mem_pair pnl (cut_mem h)
        obtain ⟨k1, k2, k3⟩ := noC_of hd
        exact ⟨d, rd.same Ag.s, k1, k2, in_mono k3 (by omega)⟩
      · obtain ⟨d, hd, rd⟩ := mem_pair pw h
        refine ⟨d, rd.same sg, ?_⟩
        rcases List.mem_cons.mp hd with e | hd
        · rw [e]
          exact ⟨rfl, shaped_i _, decide_eq_false (by omega)⟩
        · rw [List.mem_singleton.mp hd]
          exact ⟨rfl, shaped_i _, decide_eq_false (by rw [p39]; omega)⟩
    generalize upd H10 g (.lst (cs ++ ws)) = Hg at *
    have hLg := Ag.h
    have lLg : xs.length = 45 := Ag.l
    have lvs : (cs ++ ws).length ≤ 11 := by
      rw [List.length_append]
      omega
    generalize cs ++ ws = vs at *
    clear ecs sc hc s10 r10 hw pw lws lcs sg A
    have gvc : ∀ d : Dat, d.inI 1 (numR S.st) = false → (Dat.int 0).inI 0 (numR S.st - 1) = false ∨ ∃ i, Dat.int 0 = .int i ∧ (Dat.int 0).inI 0 (numR S.st - 1) = true ∧ d.inI 1 (numR S.st - i) = false := fun d hd => by
      by_cases z : numR S.st = 0
      · exact .inl (decide_eq_false (by omega))
      · refine .inr ⟨0, rfl, decide_eq_true (by omega), ?_⟩
        rw [Int.sub_zero]
        exact hd
    refine ⟨g, rfl, ⟨vs, .of hg⟩, for_list (K := K) (a := g) (xs := vs) (fun i σ H' => ∃ xs y6, σ = [some (.ref p), some (.int (numR S.st)), some (.int S.n), some (.ref nl), some x, some (.ref L), y6] ∧ But L Hg H' ∧ Acc S H2 L xs (45 + i) H') ⟨xs, _, rfl, fun b o _ e => e, Ag⟩ (fun i σ H' _ hP => by
      obtain ⟨xs, y6, _, b, _⟩ := hP
      exact .of (b _ _ gL hg)) (fun i y σ H11 ey hP => ?_) (fun σ H11 hP => ?_)⟩
    · obtain ⟨xs', y6, rfl, b, A⟩ := hP
      obtain ⟨d, rd, k1, k2, k3⟩ := vals y (List.mem_of_getElem? ey)
      have li : i < 11 := Nat.lt_of_lt_of_le (List.getElem?_eq_some_iff.mp ey).1 lvs
      have rd := rd.butL hLg lLg b (sm_cm (by decide) k1)
      have lA := A.l
      refine ⟨_, rfl, .inl ⟨rfl, _, SqL.of A.h⟩, (lits_cons (lit_tup (lits_cons (lit_tup (lits_cons lit_str (lits_cons lit_int (lits_cons (lit_var rfl rd) lits_nil))) (Nat.le_of_ble_eq_true rfl)) (lits_cons lit_str lits_nil)) (Nat.le_of_ble_eq_true rfl)) lits_nil) _ _ (Same.refl _) fun H12 vz s12 p12 => ?_⟩
      obtain ⟨v, rfl, rv⟩ := one_rp p12
      refine ⟨L, xs', v, rfl, rfl, s12 _ _ A.h, small (by omega), xs' ++ [v], _, rfl, fun b' o n e => ?_, A.app s12 (by omega) ⟨_, _, rv, .giv (.int 0) d rfl k1 k2 (gvc d k3)⟩⟩
      rw [upd_ne n]
      exact s12 _ _ (b _ _ n e)
    obtain ⟨xs', y6, rfl, _, A⟩ := hP
    clear vals hLg lLg gL Ag hg
    -- two more
    refine ⟨fun σ' H' => ∃ L xs y6 k, σ' = [some (.ref p), some (.int (numR S.st)), some (.int S.n), some (.ref nl), some x, some (.ref L), y6] ∧ 45 ≤ k ∧ k ≤ 100 ∧ Acc S H2 L xs k H', ?_, fun σ' H12 hM => ?_⟩
    · refine ⟨_, rfl, _, _, rfl, rfl, _, rfl, ite2 (fun e => ?_) (fun e => ⟨L, xs', _, _, rfl, by omega, by omega, A⟩)⟩
      have e := of_decide_eq_true e
      refine ⟨_, rfl, Lit.go (lit_lst (lits_cons (lit_tup (lits_cons (lit_tup (lits_cons lit_str (lits_cons (lit_sub (lit_var (by rfl) (.int _)) lit_int) (lits_cons lit_int lits_nil))) (Nat.le_of_ble_eq_true rfl)) (lits_cons lit_str lits_nil)) (Nat.le_of_ble_eq_true rfl)) (lits_cons (lit_tup (lits_cons (lit_tup (lits_cons lit_str (lits_cons lit_int (lits_cons (lit_var (by rfl) (.int _)) lits_nil))) (Nat.le_of_ble_eq_true rfl)) (lits_cons lit_str lits_nil)) (Nat.le_of_ble_eq_true rfl)) lits_nil)) (Nat.le_of_ble_eq_true rfl)) (fun H13 v13 s13 r13 => ?_)⟩
      obtain ⟨b6, zs, rfl, hz, pz⟩ := rp_lst r13
      have lz : zs.length = 2 := Paired.len pz
      have lA := A.l
      refine ⟨L, b6, xs', zs, rfl, rfl, s13 _ _ A.h, hz, smallE (by omega), fun L' nL' => ?_⟩
      have := A.cat s13 hz (calls_of pz fun z hz => ?_) nL'
      · rw [lz] at this
        exact ⟨L', xs' ++ zs, _, _, rfl, by omega, by omega, this⟩
      · rcases List.mem_cons.mp hz with e1 | hz
        · exact ⟨_, _, e1, .giv (.int (numR S.st - 1)) (.int 2) rfl rfl (shaped_i 2) (.inr ⟨numR S.st - 1, rfl, decide_eq_true (by omega), decide_eq_false (by omega)⟩)⟩
        · exact ⟨_, _, List.mem_singleton.mp hz, .giv (.int 1) (.int (numR S.st)) rfl rfl (shaped_i _) (.inr ⟨1, rfl, decide_eq_true (by omega), decide_eq_false (by omega)⟩)⟩
    clear A
    obtain ⟨L, xs, y6, k, rfl, k0, k1, A⟩ := hM
    -- positions
    refine lit_for (lit_lst (lits_cons lit_neg (lits_cons lit_non (lits_cons lit_str (lits_cons (lit_lst (lits_cons lit_int lits_nil) (Nat.le_of_ble_eq_true rfl)) (lits_cons lit_bl (lits_cons lit_bl (lits_cons (lit_var (by rfl) (.int _)) (lits_cons (lit_add (lit_var (by rfl) (.int _)) lit_int) (lits_cons (lit_pow (a := 10) (b := 39) ⟨by decide, by decide, by decide⟩) lits_nil))))))))) (Nat.le_of_ble_eq_true rfl)) (fun H8 v8 s8 r8 => ?_)
    obtain ⟨kl, kxs, rfl, hk, pk⟩ := rp_lst (l := noI S.n) r8
    have lk : kxs.length = 9 := Paired.len pk
    have A8 := A.same s8
    have h8 := A8.h
    have l8 : xs.length = k := A8.l
    have kL : kl ≠ L := fun e => by
      rw [e, h8] at hk
      cases hk
      omega
    refine ⟨kl, rfl, ⟨kxs, .of hk⟩, for_list (K := K) (a := kl) (xs := kxs) (fun i σ H' => ∃ xs y6, σ = [some (.ref p), some (.int (numR S.st)), some (.int S.n), some (.ref nl), some x, some (.ref L), y6] ∧ But L H8 H' ∧ Acc S H2 L xs (k + i) H') ⟨xs, _, rfl, fun b o _ e => e, A8⟩ (fun i σ H' _ hP => by
      obtain ⟨xs, y6, _, b, _⟩ := hP
      exact .of (b _ _ kL hk)) (fun i y σ H11 ey hP => ?_) (fun σ H11 hP => ?_)⟩
    · obtain ⟨xs', y6, rfl, b, A⟩ := hP
      obtain ⟨d, ed, rd⟩ := Paired.at pk ey
      obtain ⟨k1', k2', k3'⟩ := noI_of n0 n1 (List.mem_of_getElem? ed)
      have li : i < 9 := by
        rw [← lk]
        exact (List.getElem?_eq_some_iff.mp ey).1
      have rd := rd.butL h8 l8 b (sm_cm (by omega) k1')
      have lA := A.l
      refine ⟨_, rfl, .inl ⟨rfl, _, SqL.of A.h⟩, (lits_cons (lit_tup (lits_cons (lit_tup (lits_cons lit_str (lits_cons (lit_var rfl rd) lits_nil)) (Nat.le_of_ble_eq_true rfl)) (lits_cons lit_str lits_nil)) (Nat.le_of_ble_eq_true rfl)) lits_nil) _ _ (Same.refl _) fun H12 vz s12 p12 => ?_⟩
      obtain ⟨v, rfl, rv⟩ := one_rp p12
      refine ⟨L, xs', v, rfl, rfl, s12 _ _ A.h, small (by omega), xs' ++ [v], _, rfl, fun b' o n e => ?_, A.app s12 (by omega) ⟨_, _, rv, .pos d k1' k3'⟩⟩
      rw [upd_ne n]
      exact s12 _ _ (b _ _ n e)
    obtain ⟨xs', y6, rfl, _, A⟩ := hP
    rw [lk] at A
    have lA := A.l
    exact ⟨_, rfl, q _ L xs' (fun b o nb e => A.s _ _ (b02 b o nb e)) (zb2.same A.s) (frH A.n) A.h (by omega) A.c⟩
end
end UP

set_option Elab.async false
set_option linter.all false
set_option maxRecDepth 100000
set_option maxHeartbeats 4000000
set_option pp.maxSteps 900
namespace UP
open PySem PySem.Spec PyProof.Rows L2
theorem mr0 : MR ⟨"", [], [], 0, 0⟩ ⟨none, [], 0, 0, []⟩ := ⟨rfl, rfl, True.intro, rfl, rfl, rfl, (fun x h => by cases h), rfl, ⟨⟨(fun p h => by cases h), (fun p h => by cases h), (fun p h => by cases h)⟩, List.nodup_nil, (fun x h => by cases h), (fun x h => by cases h), (fun x h => by cases h), Int.le_refl _⟩⟩
theorem has_imp {P : Program} {w : World} {K : PySem.W.Frag} {mg : Str → Option Value} {base : Heap} {k : Nat} {x : Str} {ps : List Str} {sp sp' : Sp} (h : Has P w K mg base k x ps sp) (i : ∀ vs H Q E, sp' vs H Q E → sp vs H Q E) : Has P w K mg base k x ps sp' := by
  obtain ⟨f, fd, g, kp, b, F⟩ := h
  exact ⟨f, fd, g, kp, b, ⟨fun vs H Q E h => F.len vs H Q E (i _ _ _ _ h), fun A outer s H args us vs Q E hr e0 hb rv h => F.run A outer s H args us vs Q E hr e0 hb rv (i _ _ _ _ h)⟩⟩
theorem Vld.small {M : Mod} {o : Op} (h : Vld M o) (l : M.q.length ≤ 10000) : OpB o := by
  rcases h with ⟨k, n, rfl, kk, n1, n8⟩ | ⟨i, n, rfl, n1, l2⟩
  · exact ⟨nice_arr, (nice_str kk).mono (by decide) (by decide), by show (n : Int).natAbs < 2 ^ 20; omega⟩
  · exact ⟨nice_giv, nice_sint (by omega), by show (n : Int).natAbs < 2 ^ 20; omega⟩
theorem stnh0 {C : Addr} {H : Hp} {p ap ar ab : Addr} {S : Sta} (z : Stn C H p ap ar ab S []) : StnH C H p ap ar ab S [] := by
  obtain ⟨ob, rg, bl, ⟨xs, hx, hp⟩, n1, n2⟩ := z
  cases hp
  exact ⟨ob, rg, bl, ⟨[], hx, .nil⟩, n1, n2, fun e h => by cases h⟩
theorem MR.num {M : Mod} {S : Sta} (mr : MR M S) : numR S.st = M.q.length := by
  rw [mr.st]
  split
  · rename_i y
    rw [y]
    rfl
  · rfl
theorem seen_nice {M : Mod} {S : Sta} {ops : List Op} (mr : MR M S) (oB : ∀ o ∈ ops, OpB o) (lO : ops.length ≤ 300) (lR : S.R.length ≤ 300) (lc : M.c ≤ 10000) (g0 : 0 ≤ M.g) (kM : M.k = "" ∨ KindOk M.k) (kq : M.k = "" → M.q = []) : Nice 150000 3 (seenD S ops) := by
  have tot := mr.tot
  have nu := mr.num
  have en := mr.n
  have em := mr.m
  have sst := mr.st
  have c0 := mr.ok.c0
  have bR : ∀ r ∈ S.R, 0 ≤ r.1 ∧ r.1 ≤ r.2 ∧ r.2 < M.c := rg_bd mr.gd (by rw [mr.fl]; exact fun x hx => (mr.ok.qb x hx).1)
  have : Nice ((20100 + 1) * 7) 3 (seenD S ops) := by
    refine nice_list (ds := [dO5 S.st, .list (S.R.map dPv), .int S.n, .int S.m, .int (S.n - 2 * S.m - numR S.st), .list (ops.map dOp), .int ops.length]) fun d hd => ?_
    have ni : ∀ a : Int, 0 ≤ a → a ≤ 100000 → Nice 20100 2 (.int a) := fun a a0 a1 => (nice_sint (by omega)).mono (by decide) (by decide)
    simp only [List.mem_cons, List.not_mem_nil, or_false] at hd
    rcases hd with e | e | e | e | e | e | e
    · rw [e]
      refine (nice_o5 (fun r er => ?_)).mono (by decide) (by decide)
      rw [sst] at er
      split at er
      · cases er
      · rename_i y
        cases er
        refine ⟨?_, ?_⟩
        · rcases kM with c | c
          · exact absurd (kq c) y
          · exact c
        · show ((M.q.length : Int)).natAbs < 10 ^ 60
          omega
    · rw [e]
      exact (nice_spv (fun r hr => by have := bR r hr; omega) lR).mono (by decide) (by decide)
    · rw [e]
      exact ni _ (by omega) (by omega)
    · rw [e]
      exact ni _ (by omega) (by omega)
    · rw [e]
      exact ni _ (by omega) (by omega)
    · rw [e]
      exact nice_ops oB lO
    · rw [e]
      exact ni _ (by omega) (by omega)
  exact this.mono (by decide) (by decide)
theorem CallV.bag {S : Sta} {H H' : Hp} {p cl : Addr} {n : Nat} (z : Bag H p cl n) (b : But p H H') {v : V} (h : CallV S H v) : CallV S H' v := by
  obtain ⟨c, nm, r, bc⟩ := h
  exact ⟨c, nm, r.bag z b (bc.cm (by decide)), bc⟩
/-- what undoing all and once more tells -/
def wsu (n k : Nat) : List Str := List.replicate (min k n) ("fine" : Str) ++ if k ≤ n then [] else [("NothingToUndo" : Str)]
theorem wsu_zero (n : Nat) : wsu n 0 = [] := by
  unfold wsu
  rw [if_pos (Nat.zero_le n), Nat.zero_min]
  rfl
theorem own_undo {ar ab : Addr} {es : List Ent} {e : Ent} {x : Addr} (h : Own e.ar e.ab es x) : Own ar ab (es ++ [e]) x := by
  have m : e ∈ es ++ [e] := List.mem_append.mpr (.inr (List.mem_singleton.mpr rfl))
  rcases h with h | h | ⟨f, hf, h⟩
  · exact .inr (.inr ⟨e, m, .inl h⟩)
  · exact .inr (.inr ⟨e, m, .inr h⟩)
  · exact .inr (.inr ⟨f, List.mem_append.mpr (.inl hf), h⟩)
theorem wsu_step {n k : Nat} (h : k < n) : wsu n (k + 1) = wsu n k ++ [("fine" : Str)] := by
  unfold wsu
  rw [if_pos (show k + 1 ≤ n by omega), if_pos (show k ≤ n by omega), List.append_nil, List.append_nil, Nat.min_eq_left (by omega), Nat.min_eq_left (by omega), List.replicate_succ']
theorem wsu_end (n : Nat) : wsu n (n + 1) = wsu n n ++ [("NothingToUndo" : Str)] := by
  unfold wsu
  rw [if_neg (show ¬ n + 1 ≤ n by omega), if_pos (Nat.le_refl n), List.append_nil, Nat.min_eq_right (by omega), Nat.min_self]
theorem wsu_all (n : Nat) : wsu n (n + 1) = List.replicate n ("fine" : Str) ++ [("NothingToUndo" : Str)] := by
  rw [wsu_end]
  unfold wsu
  rw [if_pos (Nat.le_refl n), List.append_nil, Nat.min_self]
theorem wsu_len {n k : Nat} (h : k ≤ n + 1) : (wsu n k).length = k := by
  unfold wsu
  rw [List.length_append, List.length_replicate]
  by_cases c : k ≤ n
  · rw [if_pos c]
    show min k n + 0 = k
    omega
  · rw [if_neg c]
    show min k n + 1 = k
    omega
theorem rep_str (s : Str) : ∀ n : Nat, (List.replicate n [V.str s]).flatten = (List.replicate n s).map V.str
  | 0 => rfl
  | n + 1 => by
    rw [List.replicate_succ, List.replicate_succ, List.flatten_cons, List.map_cons, rep_str s n]
    rfl
section
variable {P : Program} {w : World} {K : PySem.W.Frag} {mg : Str → Option Value} {base : Heap}
/-! law: slots 0:script 1:bag 2:turn 3:step 4:seen 5:calls 6:found 7:some 8:model 9:many 10:call 11:due -/
abbrev s_law : Stmt := topS 59
theorem sc_law : FnScope ["script", "bag", "turn", "step", "seen", "calls", "found", "some", "model", "many", "call", "due"] ["script"] (defScope s_law) := ⟨rfl, rfl, rfl, by decide +kernel, rfl, by decide +kernel, by decide +kernel⟩
def sp_law (K : PySem.W.Frag) : Sp := fun vs H Q _ => ∃ (a : Addr) (ns : List Int), vs = [.ref a] ∧ SqL K H a (ns.map V.int) ∧ ns.length ≤ 63 ∧ ∀ H', Q (.bl true) H'
theorem fn_law {f : Addr} {fd : FuncData} {C : Addr} (F : Fun K "law" "law" s_law f fd) (T : Tx mg) (TS : ClsT K mg C) (G_law_bag : Has P w K mg base 1 "_law_bag" ["script"] (sp_law_bag K)) (G_law_draw : Has P w K mg base 2 "_law_draw" ["bag", "bound"] sp_law_draw)
    (G_Station___init__ : HasI P w K mg base C 1 (sp_Station_init C)) (G_law_new : Has P w K mg base 1 "_law_new" [] sp_law_new) (G_law_call : Has P w K mg base 3 "_law_call" ["bag", "model"] sp_law_call)
    (G_law_do : Has P w K mg base 2 "_law_do" ["model", "call"] sp_law_do) (G_law_apply : Has P w K mg base 4 "_law_apply" ["some", "call", "way"] (sp_law_apply C)) (G_law_seen : HasG P w K mg base 3 "_law_seen" ["some"] (sp_law_seen C))
    (G_law_bad_calls : Has P w K mg base 3 "_law_bad_calls" ["bag", "waiting", "size"] sp_law_bad_calls) (G_law_shuffled : Has P w K mg base 3 "_law_shuffled" ["bag", "items"] sp_law_shuffled) (G_law_outcome : Has P w K mg base 5 "_law_outcome" ["some", "call"] (sp_law_outcome C)) :
    FnC P w K mg base f fd ["script"] (sp_law K) := by
  refine fnC_of F sc_law (fun vs H Q E h => ?_) (fun cdv outer s H vs Q E hr h => ?_)
  · obtain ⟨_, _, rfl, _⟩ := h
    rfl
  · obtain ⟨a, ns, rfl, hS, l63, q⟩ := h
    have G_law_do := has_imp G_law_do (fun _ _ _ _ h => do_imp h)
    refine ⟨_, (pss_cons (ps_set (i := 1) sc_law.nd rfl (by first | exact Or.inl rfl | exact Or.inr rfl) (pe_callH G_law_bag (hr.mono (by omega)) (by rfl) (pa_cons (pv 0) pa_nil)))
    (pss_cons (ps_for PassesOwn.never rfl (pi_range1 (by rfl) T.n_range (pa_cons (pe_op op_add pe_int (pe_callB (call_min2 rfl) (by rfl) T.n_min (by decide +kernel) (pa_cons pe_int (pa_cons (pe_callB call_len_seq (by rfl) T.n_len (by decide +kernel) (pa_cons (pv 0) pa_nil)) pa_nil)))) pa_nil)) (pg_name (i := 2) sc_law.nd rfl (by first | exact Or.inl rfl | exact Or.inr rfl))
      (pss_cons (ps_asg (pe_tup (pa_cons (pe_makeO TS.mkS G_Station___init__ (hr.mono (by omega)) (by rfl)) (pa_cons (pe_call0H G_law_new (hr.mono (by omega)) (by rfl)) (pa_cons (pe_callH G_law_draw (hr.mono (by omega)) (by rfl) (pa_cons (pv 1) (pa_cons pe_int pa_nil))) pa_nil)))) (pg_tup rfl (pgs_cons (pg_name (i := 7) sc_law.nd rfl (by first | exact Or.inl rfl | exact Or.inr rfl)) (pgs_cons (pg_name (i := 8) sc_law.nd rfl (by first | exact Or.inl rfl | exact Or.inr rfl)) (pgs_cons (pg_name (i := 9) sc_law.nd rfl (by first | exact Or.inl rfl | exact Or.inr rfl)) pgs_nil)))))
    (pss_cons (ps_for PassesOwn.never rfl (pi_range1 (by rfl) T.n_range (pa_cons (pv 9) pa_nil)) (pg_name (i := 3) sc_law.nd rfl (by first | exact Or.inl rfl | exact Or.inr rfl))
      (pss_cons (ps_set (i := 10) sc_law.nd rfl (by first | exact Or.inl rfl | exact Or.inr rfl) (pe_callH G_law_call (hr.mono (by omega)) (by rfl) (pa_cons (pv 1) (pa_cons (pv 8) pa_nil))))
    (pss_cons (ps_expr (pe_callH G_law_do (hr.mono (by omega)) (by rfl) (pa_cons (pv 8) (pa_cons (pv 10) pa_nil))))
    (pss_one (ps_expr (pe_callH G_law_apply (hr.mono (by omega)) (by rfl) (pa_cons (pv 7) (pa_cons (pv 10) (pa_cons pe_int pa_nil)))))))))
    (pss_cons (ps_set (i := 4) sc_law.nd rfl (by first | exact Or.inl rfl | exact Or.inr rfl) (pe_callGH G_law_seen (by rfl) (hr.mono (by omega)) (by rfl) (pa_cons (pv 7) pa_nil)))
    (pss_cons (ps_set (i := 5) sc_law.nd rfl (by first | exact Or.inl rfl | exact Or.inr rfl) (pe_callH G_law_bad_calls (hr.mono (by omega)) (by rfl) (pa_cons (pv 1) (pa_cons (pe_callB call_len_seq (by rfl) T.n_len (by decide +kernel) (pa_cons (pe_dget (hu_of hr) (pv 8) pe_str (fun _ _ => rfl)) pa_nil)) (pa_cons (pe_dget (hu_of hr) (pv 8) pe_str (fun _ _ => rfl)) pa_nil)))))
    (pss_cons (ps_for PassesOwn.never rfl (pi_list (pe_callH G_law_shuffled (hr.mono (by omega)) (by rfl) (pa_cons (pv 1) (pa_cons (pv 5) pa_nil)))) (pg_tup rfl (pgs_cons (pg_name (i := 10) sc_law.nd rfl (by first | exact Or.inl rfl | exact Or.inr rfl)) (pgs_cons (pg_name (i := 11) sc_law.nd rfl (by first | exact Or.inl rfl | exact Or.inr rfl)) pgs_nil)))
      (pss_one (ps_if (PW.pt (pw_or (pt_cmpR op_ne (pe_callH G_law_outcome (hr.mono (by omega)) (by rfl) (pa_cons (pv 7) (pa_cons (pv 10) pa_nil))) (pv 11) (nomark _)) (pw_or1 (pt_cmpR op_ne (pe_callGH G_law_seen (by rfl) (hr.mono (by omega)) (by rfl) (pa_cons (pv 7) pa_nil)) (pv 4) (nomark _))))) (pss_one (ps_ret pe_bl)) pss_nil)))
    (pss_cons (ps_setLc (i := 6) (own := [("step", 3)]) rfl sc_law.nd rfl rfl (sw_true rfl rfl rfl (by decide +kernel)) (pi_range1 (by rfl) T.n_range (pa_cons (pe_op op_add (pv 9) pe_int) pa_nil)) (blkOk_by (N := ["script", "bag", "turn", "step", "seen", "calls", "found", "some", "model", "many", "call", "due"]) (sc := defScope s_law) (by decide +kernel)) (fun _ _ _ _ _ => (pg_name (i := 3) sc_law.nd rfl (by first | exact Or.inl rfl | exact Or.inr rfl))) (fun _ _ _ _ _ => pts_nil) (fun _ _ _ _ _ => (pe_callH G_law_outcome (hr.mono (by omega)) (by rfl) (pa_cons (pv 7) (pa_cons (pe_tup (pa_cons pe_str pa_nil)) pa_nil)))))
    (pss_one (ps_if (pt_cmpR (op_neD hr.units) (pv 6) (pe_op op_cat (pe_op op_rep (pe_lst (pa_cons pe_str pa_nil)) (pv 9)) (pe_lst (pa_cons pe_str pa_nil))) (nomark _)) (pss_one (ps_ret pe_bl)) pss_nil)))))))))
    (pss_one (ps_ret (pe_cmpR op_eq (pe_callH G_law_outcome (hr.mono (by omega)) (by rfl) (pa_cons (pe_makeO TS.mkS G_Station___init__ (hr.mono (by omega)) (by rfl)) (pa_cons (pe_tup (pa_cons pe_str (pa_cons pe_str (pa_cons (pe_op op_pow pe_int pe_int) pa_nil)))) pa_nil))) pe_str (nomark _)))))), ?_⟩
    refine ⟨_, rfl, a, ns, rfl, hS, l63, fun H1 pb cl s1 npb ncl zb1 => ?_⟩
    refine ⟨_, rfl, a, _, rfl, .inl (s1.seq hS), _, _, rfl, _, _, rfl, rfl, _, rfl, ?_, ?_, for_range (lo := 0) (n := _) (fun i σ H' => ∃ y2 y3 y4 y5 y6 y7 y8 y9 y10 y11, σ = [some (.ref a), some (.ref pb), y2, y3, y4, y5, y6, y7, y8, y9, y10, y11] ∧ Bag H' pb cl (2000 * i))
      ⟨_, _, _, _, _, _, _, _, _, _, rfl, zb1⟩ (fun i σ H5 hi hP => ?_) (fun σ H2 hP => ?_)⟩
    · rw [List.length_map]
      split <;> omega
    · rw [List.length_map]
      split <;> omega
    · obtain ⟨y2, y3, y4, y5, y6, y7, y8, y9, y10, y11, rfl, z5⟩ := hP
      have hi : i ≤ 100 := by
        have hi : i < _ := hi
        rw [List.length_map] at hi
        split at hi <;> omega
      obtain ⟨N, eN⟩ : ∃ N : Nat, N = 2000 * i := ⟨_, rfl⟩
      have N1 : N ≤ 200000 := by omega
      rw [← eN] at z5
      -- the station and its model
      refine fun p dx np nd nx => ⟨p, dx, rfl, upd_same, fun H6 ap ar ab b6 nap nar nab zs6 => ⟨rfl, ?_⟩⟩
      have s5 : Same H5 (upd (upd H5 dx (.own p)) p (.ins C dx [])) := fun b o e => by
        rw [upd_ne (ne_of_none e np), upd_ne (ne_of_none e nd)]
        exact e
      have s6 : Same H5 H6 := fun b o e => b6 _ _ (ne_of_none e np) (s5 _ _ e)
      have nap5 := s5.free nap
      have nar5 := s5.free nar
      have nab5 := s5.free nab
      have z6 := z5.same s6
      have zs6 := stnh0 zs6
      refine ⟨rfl, fun H7 m qa mt s7 nm nqa nmt zm7 => ?_⟩
      have z7 := z6.same s7
      have zs7 := zs6.same s7
      have kp : ∀ {x : Addr}, H5 x = none → x ≠ pb ∧ x ≠ cl := fun {x} e => by
        obtain ⟨b, h1, h2, _⟩ := z5
        exact ⟨(ne_of_none h1 e).symm, (ne_of_none h2 e).symm⟩
      have ap7 : ApH pb cl ap qa ar ab [] := by
        have nq5 := s6.free nqa
        refine ⟨(kp nap5).1, (kp nap5).2, ?_, (kp nq5).1, (kp nq5).2, fun x hx => ?_⟩
        · obtain ⟨l, e⟩ := zs6.ap_l
          exact ne_of_none e nqa
        · obtain ⟨l, e⟩ := zs6.own hx
          refine ⟨?_, ne_of_none e nqa⟩
          rcases hx with rfl | rfl | ⟨e, he, _⟩
          · exact (kp nar5).1
          · exact (kp nab5).1
          · cases he
      refine ⟨_, rfl, pb, cl, N, 11, rfl, z7, by omega, by decide, by decide, fun H8 r8 b8 zb8 r80 r81 => ⟨(by show 3 ≤ sizeLine; decide), fun tt ntt => ?_⟩⟩
      obtain ⟨zs8, tk8⟩ := sta_bag z7 zs7 ap7.a1 (fun x hx => (ap7.ow x hx).1) b8
      have zm8 := mod_bag z7 zm7 ap7.q1 b8
      have st := same_upd (o := .tup [.ref p, .ref m, .int r8]) ntt
      have ht0 : (upd H8 tt (.tup [.ref p, .ref m, .int r8])) tt = some (.tup [.ref p, .ref m, .int r8]) := upd_same
      generalize upd H8 tt (.tup [.ref p, .ref m, .int r8]) = H8t at *
      have zb9 := zb8.same st
      have zs9 := zs8.same st
      have zm9 := zm8.same st
      refine ⟨tt, _, rfl, .of ht0, rfl, _, _, rfl, _, _, rfl, _, _, rfl, rfl, ?_⟩
      clear zs7 zs6 z6 s7 s6 s5 b6 nap nar nab nm nqa nmt nap5 nar5 nab5 kp z5 np nd nx st ht0 ntt z7 zm7 zs8 zm8 zb8 b8 tk8
      -- the steps
      refine ⟨_, rfl, r8, rfl, by omega, by omega, for_range (lo := 0) (n := r8.toNat) (fun j σ H' => ∃ (y3 y4 y5 y6 y10 y11 : Option V) (ar ab q : Addr) (S : Sta) (es : List Ent) (M : Mod), σ = [some (.ref a), some (.ref pb), some (.int (0 + i)), y3, y4, y5, y6, some (.ref p), some (.ref m), some (.int r8), y10, y11] ∧ Bag H' pb cl (N + 1 + 5 * j) ∧ StnH C H' p ap ar ab S es ∧ ModAt H' m q mt M ∧ ApH pb cl ap q ar ab es ∧ MR M S ∧ (∀ o ∈ es.map (·.o), OpB o) ∧ S.R.length ≤ j ∧ S.B.length ≤ 70 * j ∧ es.length = j ∧ M.c ≤ 8 * j ∧ 0 ≤ M.g ∧ (M.k = "" ∨ KindOk M.k) ∧ (M.k = "" → M.q = []))
        ⟨_, _, _, _, _, _, ar, ab, qa, ⟨none, [], 0, 0, []⟩, [], ⟨"", [], [], 0, 0⟩, rfl, zb9, zs9, zm9, ap7, mr0, (fun o h => by cases h), Nat.le_refl _, Nat.le_refl _, rfl, Int.le_refl _, Int.le_refl _, .inl rfl, fun _ => rfl⟩ (fun j σ H9 hj hP => ?_) (fun σ H9 hP => ?_)⟩
      · obtain ⟨y3, y4, y5, y6, y10, y11, ar, ab, q1, S, es, M, rfl, zb, zs, zm, sep, mr, oB, lR, lB, lO, lc, g0, kM, kq⟩ := hP
        have hj : j < r8.toNat := hj
        have tot := mr.tot
        have mpb : m ≠ pb := by
          obtain ⟨b0, h1, _⟩ := zb
          exact ne_of zm.d h1 (by intro y; cases y)
        refine ⟨_, rfl, _, rfl, pb, cl, m, q1, mt, _, M, rfl, zb, by omega, zm, kM, by omega, mpb, sep.q1, fun H10 u o b10 zb10 ho vl => ?_⟩
        obtain ⟨zs10, tk10⟩ := sta_bag zb zs sep.a1 (fun x hx => (sep.ow x hx).1) b10
        have zm10 := mod_bag zb zm sep.q1 b10
        -- the operation on the model
        refine ⟨_, rfl, _, rfl, m, q1, mt, M, u, o, rfl, zm10, mr.ok, ho, vl, by omega, by omega, fun H11 q2 M2 r2 fr11 eq11 zm11 dr => ?_⟩
        have zb11 := bag_mod zb10 zm10 sep.q1 sep.q2 fr11
        obtain ⟨zs11, tk11⟩ := sta_mod zm10 zs10 sep.a3 (fun x hx => (sep.ow x hx).2) fr11
        have sep11 : ApH pb cl ap q2 ar ab es := by
          rcases eq11 with e | e
          · rw [e]
            exact sep
          · obtain ⟨b0, h1, h1c, _⟩ := zb10
            obtain ⟨l, h3⟩ := zs10.ap_l
            refine ⟨sep.a1, sep.a2, ne_of_none h3 e, (ne_of_none h1 e).symm, (ne_of_none h1c e).symm, fun x hx => ⟨(sep.ow x hx).1, ?_⟩⟩
            obtain ⟨l, h4⟩ := zs10.own hx
            exact ne_of_none h4 e
        -- the operation on the station
        refine ⟨_, rfl, _, rfl, p, ap, ar, ab, S, es, M, u, o, 1, rfl, zs11, mr, ho.tk tk11, vl, by omega, by omega, by omega, fun H12 ar' ab' rr fr12 nr12 nb12 zs12 hrr => ?_⟩
        have zb12 := bag_sta zb11 zs11 sep11.a1 sep11.a2 fr12
        have zm12 := mod_sta zm11 zs11 sep11.a3 fr12
        have apart : ∀ {x : Addr}, H11 x = none → x ≠ pb ∧ x ≠ q2 := fun {x} e => by
          obtain ⟨b0, h1, _⟩ := zb11
          exact ⟨(ne_of_none h1 e).symm, (ne_of_none zm11.q e).symm⟩
        have sep12 : ApH pb cl ap q2 ar' ab' (es ++ [⟨o, S, ar, ab⟩]) := by
          refine ⟨sep11.a1, sep11.a2, sep11.a3, sep11.q1, sep11.q2, fun x hx => ?_⟩
          rcases hx with rfl | rfl | ⟨e, he, hx⟩
          · exact apart nr12
          · rcases nb12 with e | e
            · rw [e]
              exact sep11.ow ab (.inr (.inl rfl))
            · exact apart e
          · rcases List.mem_append.mp he with h | h
            · exact sep11.ow x (.inr (.inr ⟨e, h, hx⟩))
            · rw [List.mem_singleton.mp h] at hx
              rcases hx with rfl | rfl
              · exact sep11.ow x (.inl rfl)
              · exact sep11.ow x (.inr (.inl rfl))
        obtain ⟨mr2, lR2, lB2, c2, c21, g2, kM2, kq2⟩ := dr.mr mr g0
        have tot2 := mr2.tot
        have oB2 : ∀ x ∈ (es ++ [(⟨o, S, ar, ab⟩ : Ent)]).map (·.o), OpB x := fun x hx => by
          rw [List.map_append] at hx
          rcases List.mem_append.mp hx with h | h
          · exact oB x h
          · rw [List.mem_singleton.mp h]
            exact vl.small (by omega)
        exact ⟨_, _, _, _, _, _, ar', ab', q2, _, _, M2, rfl, zb12.mono (by omega), zs12, zm12, sep12, mr2, oB2, by omega, by omega, by rw [List.length_append, lO]; rfl, by omega, g2, kM2 kM, kq2 kq⟩
      · obtain ⟨y3, y4, y5, y6, y10, y11, ar, ab, q1, S, es, M, rfl, zb, zs, zm, sep, mr, oB, lR, lB, lO, lc, g0, kM, kq⟩ := hP
        have hj : r8.toNat ≤ 10 := by omega
        have c0 := mr.ok.c0
        have tot := mr.tot
        have nu := mr.num
        have en := mr.n
        have lOm : (es.map (·.o)).length = es.length := List.length_map ..
        have nd : Nice 150000 3 (seenD S (es.map (·.o))) := seen_nice mr oB (by omega) (by omega) (by omega) g0 kM kq
        refine ⟨_, rfl, p, ap, ar, ab, S, _, rfl, zs.stn, nd, by omega, fun H10 s10 => ?_⟩
        have zb10 := zb.same s10
        have zs10 := zs.same s10
        have zm10 := zm.same s10
        -- the calls
        refine ⟨_, rfl, _, rfl, m, _, rfl, md_get zm10.d (md_queue ..), q1, _, rfl, .inl (.of zm10.q), _, rfl, m, _, rfl, md_get zm10.d (md_count ..), pb, cl, _, S, ?_, zb10, by omega, by omega, by omega, by omega, by omega, fun H11 L xs b11 zb11 nL hL lx cx => ?_⟩
        · rw [nu, en, List.length_map]
          rfl
        obtain ⟨zs11, tk11⟩ := sta_bag zb10 zs10 sep.a1 (fun x hx => (sep.ow x hx).1) b11
        refine ⟨_, rfl, _, rfl, pb, cl, L, _, xs, rfl, zb11, by omega, hL, zb10.ne nL, by omega, fun H14 L2 ys b14 zb14 nL2 hL2 ly my => ?_⟩
        obtain ⟨zs14, tk14⟩ := sta_bag zb11 zs11 sep.a1 (fun x hx => (sep.ow x hx).1) b14
        refine ⟨L2, rfl, ⟨_, .of hL2⟩, for_list (K := K) (a := L2) (xs := ys) (fun k σ H' => ∃ y10 y11, σ = [some (.ref a), some (.ref pb), some (.int (0 + i)), y3, some (.str (seenD S (es.map (·.o))).shown), some (.ref L), y6, some (.ref p), some (.ref m), some (.int r8), y10, y11] ∧ Same H14 H') ⟨_, _, rfl, Same.refl _⟩ (fun k σ H' _ hP => by
          obtain ⟨_, _, _, s⟩ := hP
          exact .of (s _ _ hL2)) (fun k x σ H15 ex hP => ?_) (fun σ H15 hP => ?_)⟩
        · obtain ⟨y10, y11, rfl, s15⟩ := hP
          obtain ⟨c, nm, rc, bc⟩ := ((cx x (my x (List.mem_of_getElem? ex))).bag zb11 b14).same s15
          obtain ⟨t, u, rfl, ht, hu⟩ := rp_pair rc
          have zs15 := zs14.same s15
          refine ⟨t, _, rfl, .of ht, rfl, _, _, rfl, _, _, rfl, rfl, ?_⟩
          refine ⟨_, rfl, _, rfl, p, ap, ar, ab, S, es, u, rfl, zs15, .inl ⟨c, nm, hu, bc, fun H16 s16 => ?_⟩⟩
          refine ⟨_, rfl, rfl, _, rfl, iteN (by rw [decide_eq_true rfl]; rfl) ?_⟩
          refine ⟨_, rfl, p, ap, ar, ab, S, _, rfl, (zs15.same s16).stn, nd, by omega, fun H17 s17 => ?_⟩
          exact ⟨_, rfl, rfl, _, rfl, iteN (by rw [decide_eq_true rfl]; rfl) ⟨_, _, rfl, s15.trans (s16.trans s17)⟩⟩
        obtain ⟨y10, y11, rfl, s15⟩ := hP
        have zb15 := zb14.same s15
        have zs15 := zs14.same s15
        -- all is undone
        obtain ⟨n, en8⟩ : ∃ n : Nat, n = r8.toNat := ⟨_, rfl⟩
        obtain ⟨NB, eNB⟩ : ∃ NB : Nat, NB = N + 1 + 5 * r8.toNat + 1 + 1000 := ⟨_, rfl⟩
        rw [← eNB] at zb15
        have n11 : (r8 + 1).toNat = n + 1 := by omega
        refine ⟨_, rfl, _, _, rfl, rfl, _, rfl, by omega, by omega, fun X nX => lc_range (lo := 0) (n := _) (fun k H' => ∃ (ar ab : Addr) (S : Sta) (es : List Ent), StnH C H' p ap ar ab S es ∧ Bag H' pb cl NB ∧ H' X = some (.lst ((wsu n k).map V.str)) ∧ es.length = n - k ∧ ∀ x, Own ar ab es x → x ≠ X)
          ⟨ar, ab, S, es, zs15.same (same_upd nX), zb15.same (same_upd nX), ?_, by omega, fun x hx => ?_⟩ (fun k H16 hk hP => ?_) (fun H16 hP => ?_)⟩
        · rw [upd_same, wsu_zero]
          rfl
        · obtain ⟨l, e⟩ := zs15.own hx
          exact ne_of_none e nX
        · obtain ⟨ar', ab', S', es', z, zb16, hX, le, ow⟩ := hP
          have hk : k < n + 1 := by
            rw [← n11]
            exact hk
          have Xp : p ≠ X := by
            obtain ⟨d, g, e⟩ := zs15.p_i
            exact ne_of_none e nX
          have Xap : ap ≠ X := by
            obtain ⟨l, e⟩ := zs15.ap_l
            exact ne_of_none e nX
          have Xcl : cl ≠ X := by
            obtain ⟨b0, _, h1c, _⟩ := zb15
            exact ne_of_none h1c nX
          have Xpb : pb ≠ X := (zb15.ne nX).symm
          have lw := wsu_len (n := n) (k := k) (by omega)
          refine ⟨rfl, yesT ⟨_, rfl, (by show 1 ≤ sizeLine; decide), fun t nt => ?_⟩⟩
          have st := same_upd (o := .tup [.str "undo"]) nt
          have ht : (upd H16 t (.tup [.str "undo"])) t = some (.tup [.str "undo"]) := upd_same
          generalize upd H16 t (.tup [.str "undo"]) = Ht at *
          have zt := z.same st
          have zbt := zb16.same st
          refine ⟨p, ap, ar', ab', S', es', .ref t, rfl, zt, .inr (.inl ⟨t, rfl, ht, ?_⟩)⟩
          by_cases c : k < n
          · rcases List.eq_nil_or_concat es' with e0 | ⟨es2, e, e0⟩
            · rw [e0] at le
              have le : 0 = n - k := le
              omega
            rw [List.concat_eq_append] at e0
            subst e0
            refine .inr ⟨es2, e, rfl, fun H17 f17 z17 => ?_⟩
            have hX17 := f17 _ _ Xp.symm Xap.symm (st _ _ hX)
            have zb17 := bag_sta zbt zt sep.a1 sep.a2 f17
            have tk := tk_but hX17 (by intro _ y; cases y) (but_upd (o := .lst ((wsu n k).map V.str ++ [.str "fine"])))
            have ow2 : ∀ x, Own e.ar e.ab es2 x → x ≠ X := fun x hx => ow x (own_undo hx)
            rw [List.length_append] at le
            have le : es2.length + 1 = n - k := le
            refine ⟨_, hX17, small (by rw [List.length_map, lw]; omega), e.ar, e.ab, e.S, es2, z17.keepO tk (but_upd.at Xp) (but_upd.at Xap) (fun x hx => but_upd.at (ow2 x hx)), zb17.keep (but_upd.at Xpb) (but_upd.at Xcl), ?_, by omega, ow2⟩
            rw [upd_same, wsu_step c, List.map_append]
            rfl
          · have ek : k = n := by omega
            subst ek
            have e0 : es' = [] := List.eq_nil_of_length_eq_zero (by omega)
            subst e0
            refine .inl ⟨rfl, fun H17 s17 => ?_⟩
            have hX17 := s17 _ _ (st _ _ hX)
            have tk := tk_but hX17 (by intro _ y; cases y) (but_upd (o := .lst ((wsu k k).map V.str ++ [.str "NothingToUndo"])))
            refine ⟨_, hX17, small (by rw [List.length_map, lw]; omega), ar', ab', S', [], (zt.same s17).keepO tk (but_upd.at Xp) (but_upd.at Xap) (fun x hx => but_upd.at (ow x hx)), (zbt.same s17).keep (but_upd.at Xpb) (but_upd.at Xcl), ?_, by omega, ow⟩
            rw [upd_same, wsu_end, List.map_append]
            rfl
        obtain ⟨ar', ab', S', es', _, zb16, hX, _⟩ := hP
        rw [n11] at hX
        have sw : ∀ k ∈ wsu n (n + 1), StrG k := fun k hk => by
          rw [wsu_all] at hk
          rcases List.mem_append.mp hk with h | h
          · rw [(List.mem_replicate.mp h).2]
            show PyData.canLay0 (.str "fine") = true
            decide +kernel
          · rw [List.mem_singleton.mp h]
            show PyData.canLay0 (.str "NothingToUndo") = true
            decide +kernel
        refine ⟨_, rfl, (by show 1 ≤ sizeLine; decide), fun l1 n1 => ⟨_, rfl, l1, r8, _, rfl, rfl, upd_same, by omega, by omega, ?_, fun l2 n2 => ⟨(by show 1 ≤ sizeLine; decide), fun l3 n3 => ⟨l2, l3, _, _, rfl, rfl, same_upd n3 _ _ upd_same, upd_same, ?_, fun l4 n4 => ?_⟩⟩⟩⟩
        · show 1 * r8.toNat ≤ sizeLine
          exact smallE (by omega)
        · rw [rep_str, List.length_map, List.length_replicate]
          show r8.toNat + 1 ≤ sizeLine
          exact smallE (by omega)
        have sA := (((same_upd (o := .lst [.str "fine"]) n1).trans (same_upd n2)).trans (same_upd n3)).trans (same_upd (o := .lst ((List.replicate r8.toNat [V.str "fine"]).flatten ++ [.str "NothingToUndo"])) n4)
        have e4 : (List.replicate r8.toNat [V.str "fine"]).flatten ++ [V.str "NothingToUndo"] = (wsu n (n + 1)).map V.str := by
          rw [wsu_all, rep_str, List.map_append, en8]
          rfl
        refine ⟨.list ((wsu n (n + 1)).map PyData.str), .list ((wsu n (n + 1)).map PyData.str), .lst (.of (sA _ _ hX)) (dp_strs _), .lst (.of upd_same) ?_, shaped_strs sw, shaped_strs sw, _, rfl, iteN (by rw [eqv_strs]; rfl) ?_⟩
        · rw [e4]
          exact dp_strs _
        exact ⟨_, _, _, _, _, _, _, _, _, _, rfl, (zb16.same sA).mono (by omega)⟩
    · obtain ⟨y2, y3, y4, y5, y6, y7, y8, y9, y10, y11, rfl, z5⟩ := hP
      refine fun p dx np nd nx => ⟨p, dx, rfl, upd_same, fun H6 ap ar ab b6 nap nar nab zs6 => ⟨rfl, ?_⟩⟩
      refine ⟨_, _, rfl, rfl, ⟨by decide, by decide, by decide⟩, (by show 3 ≤ sizeLine; decide), fun t nt => ?_⟩
      exact ⟨p, ap, ar, ab, _, [], .ref t, rfl, (stnh0 zs6).same (same_upd nt), .inr (.inr ⟨t, "a", _, rfl, upd_same, by decide +kernel, by decide +kernel, by decide +kernel, Nat.zero_le _, Nat.zero_le _, Nat.zero_le _, fun H' => ⟨rfl, q _⟩⟩)⟩
end
end UP

set_option Elab.async false
set_option linter.all false
set_option maxRecDepth 100000
set_option maxHeartbeats 4000000
namespace UP
open PySem PySem.Spec PyProof.Rows L2
section
variable {K : PySem.W.Frag} {h : Heap} {mg : Str → Option Value}
theorem df_mk {x : Str} {st : Stmt} {f : Addr} {od an : Option Addr} {sl : Array (Option Value)} {oc kV dc pm cd ct : Value} (X : K.In h) (G : h.Ns mainGlobals mg) (a : PySem.W.nsIn K mainGlobals x = some (some (.ref f)))
    (l : K.lookup f = some ⟨oc, od, .func (PySem.W.fnOf x x (defArgs st) (defBody st) (defScope st) .none kV dc pm an cd ct), sl⟩) (c : PySem.W.codeIn K cd x = true) (k : PySem.W.keepIn K (.ref f) = true) : Df K mg x st :=
  ⟨f, _, PySem.W.mg_of X G a, fun_mk l c k⟩
theorem cst_mk {x : Str} {i : Int} {t : Tok} (X : K.In h) (G : h.Ns mainGlobals mg) (a : PySem.W.nsIn K mainGlobals x = some (some (.int i t))) : ∃ t, mg x = some (.int i t) := ⟨t, PySem.W.mg_of X G a⟩
def StaF (K : PySem.W.Frag) (mg : Str → Option Value) : Prop := ∃ C, ClsT K mg C ∧ DfI K C "Station.__init__" s_Station___init__ ∧ DfM K C "current_state" "Station.current_state" s_Station_current_state ∧ DfM K C "waiting_positions" "Station.waiting_positions" s_Station_waiting_positions ∧ DfM K C "arrival_count" "Station.arrival_count" s_Station_arrival_count ∧ DfM K C "pair_total" "Station.pair_total" s_Station_pair_total ∧ DfM K C "give_up_count" "Station.give_up_count" s_Station_give_up_count ∧ DfM K C "partner_at" "Station.partner_at" s_Station_partner_at ∧ DfM K C "__len__" "Station.__len__" s_Station___len__ ∧ DfM K C "operations_done" "Station.operations_done" s_Station_operations_done ∧ DfM K C "remember" "Station.remember" s_Station_remember ∧ DfMD K C "arrive" "Station.arrive" s_Station_arrive (.int 1) ∧ DfMD K C "give_up" "Station.give_up" s_Station_give_up (.int 1) ∧ DfM K C "undo" "Station.undo" s_Station_undo
theorem sta_mk {C : Addr} {f0 : Addr} {od0 an0 : Option Addr} {sl0 : Array (Option Value)} {oc0 kV0 dc0 pm0 cd0 ct0 : Value} {f1 : Addr} {od1 an1 : Option Addr} {sl1 : Array (Option Value)} {oc1 kV1 dc1 pm1 cd1 ct1 : Value} {f2 : Addr} {od2 an2 : Option Addr} {sl2 : Array (Option Value)} {oc2 kV2 dc2 pm2 cd2 ct2 : Value} {f3 : Addr} {od3 an3 : Option Addr} {sl3 : Array (Option Value)} {oc3 kV3 dc3 pm3 cd3 ct3 : Value} {f4 : Addr} {od4 an4 : Option Addr} {sl4 : Array (Option Value)} {oc4 kV4 dc4 pm4 cd4 ct4 : Value} {f5 : Addr} {od5 an5 : Option Addr} {sl5 : Array (Option Value)} {oc5 kV5 dc5 pm5 cd5 ct5 : Value} {f6 : Addr} {od6 an6 : Option Addr} {sl6 : Array (Option Value)} {oc6 kV6 dc6 pm6 cd6 ct6 : Value} {f7 : Addr} {od7 an7 : Option Addr} {sl7 : Array (Option Value)} {oc7 kV7 dc7 pm7 cd7 ct7 : Value} {f8 : Addr} {od8 an8 : Option Addr} {sl8 : Array (Option Value)} {oc8 kV8 dc8 pm8 cd8 ct8 : Value} {f9 : Addr} {od9 an9 : Option Addr} {sl9 : Array (Option Value)} {oc9 kV9 dc9 pm9 cd9 ct9 : Value} {f10 : Addr} {od10 an10 : Option Addr} {sl10 : Array (Option Value)} {oc10 kV10 dc10 pm10 cd10 ct10 : Value} {T10 : Addr} {oe10 : Option Addr} {sm10 : Array (Option Value)} {n10 : Nat} {ob10 : Value} {tk10 : Tok} {f11 : Addr} {od11 an11 : Option Addr} {sl11 : Array (Option Value)} {oc11 kV11 dc11 pm11 cd11 ct11 : Value} {T11 : Addr} {oe11 : Option Addr} {sm11 : Array (Option Value)} {n11 : Nat} {ob11 : Value} {tk11 : Tok} {f12 : Addr} {od12 an12 : Option Addr} {sl12 : Array (Option Value)} {oc12 kV12 dc12 pm12 cd12 ct12 : Value} (X : K.In h) (G : h.Ns mainGlobals mg) (aC : PySem.W.nsIn K mainGlobals "Station" = some (some (.ref C)))
    (pg : PySem.W.plainGet K C Str.empty = true) (hd : PySem.W.hasDictIn K C = true) (po : PySem.W.plainOver K C = true) (sa : PySem.W.findIn K (.ref C) "__setattr__" = some (some (.builtin "object.__setattr__"))) (mk : PySem.W.makesIn K C = true) (kc : PySem.W.keepIn K (.ref C) = true)
    (z0 : PySem.W.findIn K (.ref C) "state" = some none)
    (z1 : PySem.W.findIn K (.ref C) "ranges" = some none)
    (z2 : PySem.W.findIn K (.ref C) "arrived" = some none)
    (z3 : PySem.W.findIn K (.ref C) "paired" = some none)
    (z4 : PySem.W.findIn K (.ref C) "blocks" = some none)
    (z5 : PySem.W.findIn K (.ref C) "past" = some none)
    (a0 : PySem.W.findIn K (.ref C) "__init__" = some (some (.ref f0))) (i0 : PySem.W.isFn K (.ref f0) = true) (l0 : K.lookup f0 = some ⟨oc0, od0, .func (PySem.W.fnOf "__init__" "Station.__init__" (defArgs s_Station___init__) (defBody s_Station___init__) (defScope s_Station___init__) .none kV0 dc0 pm0 an0 cd0 ct0), sl0⟩) (c0 : PySem.W.codeIn K cd0 "Station.__init__" = true) (k0 : PySem.W.keepIn K (.ref f0) = true)
    (a1 : PySem.W.findIn K (.ref C) "current_state" = some (some (.ref f1))) (i1 : PySem.W.isFn K (.ref f1) = true) (l1 : K.lookup f1 = some ⟨oc1, od1, .func (PySem.W.fnOf "current_state" "Station.current_state" (defArgs s_Station_current_state) (defBody s_Station_current_state) (defScope s_Station_current_state) .none kV1 dc1 pm1 an1 cd1 ct1), sl1⟩) (c1 : PySem.W.codeIn K cd1 "Station.current_state" = true) (k1 : PySem.W.keepIn K (.ref f1) = true)
    (a2 : PySem.W.findIn K (.ref C) "waiting_positions" = some (some (.ref f2))) (i2 : PySem.W.isFn K (.ref f2) = true) (l2 : K.lookup f2 = some ⟨oc2, od2, .func (PySem.W.fnOf "waiting_positions" "Station.waiting_positions" (defArgs s_Station_waiting_positions) (defBody s_Station_waiting_positions) (defScope s_Station_waiting_positions) .none kV2 dc2 pm2 an2 cd2 ct2), sl2⟩) (c2 : PySem.W.codeIn K cd2 "Station.waiting_positions" = true) (k2 : PySem.W.keepIn K (.ref f2) = true)
    (a3 : PySem.W.findIn K (.ref C) "arrival_count" = some (some (.ref f3))) (i3 : PySem.W.isFn K (.ref f3) = true) (l3 : K.lookup f3 = some ⟨oc3, od3, .func (PySem.W.fnOf "arrival_count" "Station.arrival_count" (defArgs s_Station_arrival_count) (defBody s_Station_arrival_count) (defScope s_Station_arrival_count) .none kV3 dc3 pm3 an3 cd3 ct3), sl3⟩) (c3 : PySem.W.codeIn K cd3 "Station.arrival_count" = true) (k3 : PySem.W.keepIn K (.ref f3) = true)
    (a4 : PySem.W.findIn K (.ref C) "pair_total" = some (some (.ref f4))) (i4 : PySem.W.isFn K (.ref f4) = true) (l4 : K.lookup f4 = some ⟨oc4, od4, .func (PySem.W.fnOf "pair_total" "Station.pair_total" (defArgs s_Station_pair_total) (defBody s_Station_pair_total) (defScope s_Station_pair_total) .none kV4 dc4 pm4 an4 cd4 ct4), sl4⟩) (c4 : PySem.W.codeIn K cd4 "Station.pair_total" = true) (k4 : PySem.W.keepIn K (.ref f4) = true)
    (a5 : PySem.W.findIn K (.ref C) "give_up_count" = some (some (.ref f5))) (i5 : PySem.W.isFn K (.ref f5) = true) (l5 : K.lookup f5 = some ⟨oc5, od5, .func (PySem.W.fnOf "give_up_count" "Station.give_up_count" (defArgs s_Station_give_up_count) (defBody s_Station_give_up_count) (defScope s_Station_give_up_count) .none kV5 dc5 pm5 an5 cd5 ct5), sl5⟩) (c5 : PySem.W.codeIn K cd5 "Station.give_up_count" = true) (k5 : PySem.W.keepIn K (.ref f5) = true)
    (a6 : PySem.W.findIn K (.ref C) "partner_at" = some (some (.ref f6))) (i6 : PySem.W.isFn K (.ref f6) = true) (l6 : K.lookup f6 = some ⟨oc6, od6, .func (PySem.W.fnOf "partner_at" "Station.partner_at" (defArgs s_Station_partner_at) (defBody s_Station_partner_at) (defScope s_Station_partner_at) .none kV6 dc6 pm6 an6 cd6 ct6), sl6⟩) (c6 : PySem.W.codeIn K cd6 "Station.partner_at" = true) (k6 : PySem.W.keepIn K (.ref f6) = true)
    (a7 : PySem.W.findIn K (.ref C) "__len__" = some (some (.ref f7))) (i7 : PySem.W.isFn K (.ref f7) = true) (l7 : K.lookup f7 = some ⟨oc7, od7, .func (PySem.W.fnOf "__len__" "Station.__len__" (defArgs s_Station___len__) (defBody s_Station___len__) (defScope s_Station___len__) .none kV7 dc7 pm7 an7 cd7 ct7), sl7⟩) (c7 : PySem.W.codeIn K cd7 "Station.__len__" = true) (k7 : PySem.W.keepIn K (.ref f7) = true)
    (a8 : PySem.W.findIn K (.ref C) "operations_done" = some (some (.ref f8))) (i8 : PySem.W.isFn K (.ref f8) = true) (l8 : K.lookup f8 = some ⟨oc8, od8, .func (PySem.W.fnOf "operations_done" "Station.operations_done" (defArgs s_Station_operations_done) (defBody s_Station_operations_done) (defScope s_Station_operations_done) .none kV8 dc8 pm8 an8 cd8 ct8), sl8⟩) (c8 : PySem.W.codeIn K cd8 "Station.operations_done" = true) (k8 : PySem.W.keepIn K (.ref f8) = true)
    (a9 : PySem.W.findIn K (.ref C) "remember" = some (some (.ref f9))) (i9 : PySem.W.isFn K (.ref f9) = true) (l9 : K.lookup f9 = some ⟨oc9, od9, .func (PySem.W.fnOf "remember" "Station.remember" (defArgs s_Station_remember) (defBody s_Station_remember) (defScope s_Station_remember) .none kV9 dc9 pm9 an9 cd9 ct9), sl9⟩) (c9 : PySem.W.codeIn K cd9 "Station.remember" = true) (k9 : PySem.W.keepIn K (.ref f9) = true)
    (a10 : PySem.W.findIn K (.ref C) "arrive" = some (some (.ref f10))) (i10 : PySem.W.isFn K (.ref f10) = true) (l10 : K.lookup f10 = some ⟨oc10, od10, .func (PySem.W.fnOf "arrive" "Station.arrive" (defArgs s_Station_arrive) (defBody s_Station_arrive) (defScope s_Station_arrive) (.ref T10) kV10 dc10 pm10 an10 cd10 ct10), sl10⟩) (c10 : PySem.W.codeIn K cd10 "Station.arrive" = true) (k10 : PySem.W.keepIn K (.ref f10) = true)
    (t10 : K.lookup T10 = some ⟨ob10, oe10, .seq #[.int 1 tk10] n10, sm10⟩)
    (a11 : PySem.W.findIn K (.ref C) "give_up" = some (some (.ref f11))) (i11 : PySem.W.isFn K (.ref f11) = true) (l11 : K.lookup f11 = some ⟨oc11, od11, .func (PySem.W.fnOf "give_up" "Station.give_up" (defArgs s_Station_give_up) (defBody s_Station_give_up) (defScope s_Station_give_up) (.ref T11) kV11 dc11 pm11 an11 cd11 ct11), sl11⟩) (c11 : PySem.W.codeIn K cd11 "Station.give_up" = true) (k11 : PySem.W.keepIn K (.ref f11) = true)
    (t11 : K.lookup T11 = some ⟨ob11, oe11, .seq #[.int 1 tk11] n11, sm11⟩)
    (a12 : PySem.W.findIn K (.ref C) "undo" = some (some (.ref f12))) (i12 : PySem.W.isFn K (.ref f12) = true) (l12 : K.lookup f12 = some ⟨oc12, od12, .func (PySem.W.fnOf "undo" "Station.undo" (defArgs s_Station_undo) (defBody s_Station_undo) (defScope s_Station_undo) .none kV12 dc12 pm12 an12 cd12 ct12), sl12⟩) (c12 : PySem.W.codeIn K cd12 "Station.undo" = true) (k12 : PySem.W.keepIn K (.ref f12) = true) : StaF K mg :=
  ⟨C, ⟨⟨pg, hd, po, sa⟩, z0, z1, z2, z3, z4, z5, PySem.W.mg_of X G aC⟩, ⟨f0, _, ⟨mk, a0, i0, kc⟩, fun_mk l0 c0 k0⟩, ⟨f1, _, ⟨a1, i1, k1⟩, fun_mk l1 c1 k1⟩, ⟨f2, _, ⟨a2, i2, k2⟩, fun_mk l2 c2 k2⟩, ⟨f3, _, ⟨a3, i3, k3⟩, fun_mk l3 c3 k3⟩, ⟨f4, _, ⟨a4, i4, k4⟩, fun_mk l4 c4 k4⟩, ⟨f5, _, ⟨a5, i5, k5⟩, fun_mk l5 c5 k5⟩, ⟨f6, _, ⟨a6, i6, k6⟩, fun_mk l6 c6 k6⟩, ⟨f7, _, ⟨a7, i7, k7⟩, fun_mk l7 c7 k7⟩, ⟨f8, _, ⟨a8, i8, k8⟩, fun_mk l8 c8 k8⟩, ⟨f9, _, ⟨a9, i9, k9⟩, fun_mk l9 c9 k9⟩, ⟨f10, _, ⟨a10, i10, k10⟩, ⟨⟨oc10, od10, _, kV10, dc10, pm10, an10, cd10, ct10, sl10, rfl, l10, c10, .inr ⟨(by intro z; cases z), T10, _, [.int 1 tk10], n10, rfl, t10, rfl, .cons ⟨tk10, rfl⟩ .nil⟩, .inl rfl⟩, k10⟩⟩, ⟨f11, _, ⟨a11, i11, k11⟩, ⟨⟨oc11, od11, _, kV11, dc11, pm11, an11, cd11, ct11, sl11, rfl, l11, c11, .inr ⟨(by intro z; cases z), T11, _, [.int 1 tk11], n11, rfl, t11, rfl, .cons ⟨tk11, rfl⟩ .nil⟩, .inl rfl⟩, k11⟩⟩, ⟨f12, _, ⟨a12, i12, k12⟩, fun_mk l12 c12 k12⟩⟩
end
/-! ### the classes -/
def CA (mg : Str → Option Value) (n : Str) : Addr := match mg n with
  | some (.ref C) => C
  | _ => 0
theorem ca_of {mg : Str → Option Value} {n : Str} {C : Addr} (h : mg n = some (.ref C)) : CA mg n = C := by
  unfold CA
  rw [h]
def P2 (K : PySem.W.Frag) (mg : Str → Option Value) (nm n : Str) (r : Bool) : Prop := ∃ D C, mg nm = some (.ref D) ∧ mg n = some (.ref C) ∧ PySem.W.kitOne K (.ref D) (.ref C) = some r
def P1 (K : PySem.W.Frag) (mg : Str → Option Value) (nm : Str) : Prop := ∃ D B, mg nm = some (.ref D) ∧ mg "PairError" = some (.ref B) ∧ Ex K mg nm D ∧ ExcC K D ∧ PySem.W.exmOne K (.ref D) (.ref B) = some true ∧ PySem.W.kitOne K (.ref D) (.ref B) = some true ∧ PySem.W.kitOne K (.ref D) (.type "ValueError") = some true
section
variable {K : PySem.W.Frag} {h : Heap} {mg : Str → Option Value}
theorem p2_mk {nm n : Str} {r : Bool} {D C : Addr} (X : K.In h) (G : h.Ns mainGlobals mg) (a : PySem.W.nsIn K mainGlobals nm = some (some (.ref D))) (b : PySem.W.nsIn K mainGlobals n = some (some (.ref C))) (k : PySem.W.kitOne K (.ref D) (.ref C) = some r) : P2 K mg nm n r := ⟨D, C, PySem.W.mg_of X G a, PySem.W.mg_of X G b, k⟩
theorem p1_mk {nm : Str} {D B : Addr} (X : K.In h) (G : h.Ns mainGlobals mg) (a : PySem.W.nsIn K mainGlobals nm = some (some (.ref D))) (b : PySem.W.nsIn K mainGlobals "PairError" = some (some (.ref B)))
    (x : PySem.W.excIn K D [.type "ValueError", .type "Exception", .type "BaseException", .type "object"] "ValueError.__new__" = true) (k : PySem.W.keepIn K (.ref D) = true) (bs : PySem.W.subIn K (.ref D) (.type "BaseException") = some true) (t : PySem.W.typeIn K (.ref D) = some (.type "type"))
    (e1 : PySem.W.findIn K (.ref D) "__getattribute__" = some (some (.builtin "BaseException.__getattribute__"))) (e2 : PySem.W.findIn K (.ref D) "__getattr__" = some none) (e3 : PySem.W.hasDictIn K D = true) (e4 : PySem.W.findIn K (.ref D) "__class__" = some (some (.builtin "object.__class__")))
    (e5 : PySem.W.specialIn K (.builtin "object.__class__") "__get__" = some (some (.builtin "getset_descriptor.__get__"))) (e6 : PySem.W.takesIn K (.builtin "object.__class__") = some true) (e7 : PySem.W.mroIn K D (.type "object") = some true)
    (m : PySem.W.exmOne K (.ref D) (.ref B) = some true) (k1 : PySem.W.kitOne K (.ref D) (.ref B) = some true) (k2 : PySem.W.kitOne K (.ref D) (.type "ValueError") = some true) : P1 K mg nm :=
  ⟨D, B, PySem.W.mg_of X G a, PySem.W.mg_of X G b, ⟨PySem.W.mg_of X G a, x, k, bs, t⟩, ⟨e1, e2, bs, e3, e4, e5, e6, e7⟩, m, k1, k2⟩
theorem clsF_of {nm : Str} (h : P1 K mg nm) (k : ∀ n, n ∈ allL → P2 K mg nm n (decide (n = nm))) : ClsH K (CA mg) nm ∧ Ex K mg nm (CA mg nm) := by
  obtain ⟨D, B, g, gb, ex, ec, m, k1, k2⟩ := h
  have eD := ca_of g
  have eB := ca_of gb
  refine ⟨⟨by rw [eD]; exact ec, by rw [eD, eB]; exact m, fun n hn => ?_, by rw [eD]; exact k2⟩, by rw [eD]; exact ex⟩
  obtain ⟨D', C, g', gc, kk⟩ := k n hn
  rw [g] at g'
  cases g'
  rw [eD, ca_of gc]
  exact kk
theorem cmg_of {nm : Str} (h : P1 K mg nm) (k : ∀ n, n ∈ allL → P2 K mg nm n (decide (n = nm))) : CmgH mg (CA mg) := by
  refine ⟨fun n hn => ?_⟩
  have hn : n ∈ allL ∨ n = "PairError" := by
    rcases List.mem_append.mp hn with z | z
    · exact .inl z
    · exact .inr (List.mem_singleton.mp z)
  rcases hn with z | z
  · obtain ⟨D, C, _, gc, _⟩ := k n z
    rw [ca_of gc]
    exact gc
  · obtain ⟨D, B, _, gb, _⟩ := h
    rw [z, ca_of gb]
    exact gb
end
/-- all that the top has written -/
structure Top (K : PySem.W.Frag) (mg : Str → Option Value) : Prop where
  T : Tx mg
  p_InvalidKind : P1 K mg "InvalidKind"
  k_InvalidKind_InvalidKind : P2 K mg "InvalidKind" "InvalidKind" true
  k_InvalidKind_InvalidNumber : P2 K mg "InvalidKind" "InvalidNumber" false
  k_InvalidKind_InvalidPosition : P2 K mg "InvalidKind" "InvalidPosition" false
  k_InvalidKind_NothingToUndo : P2 K mg "InvalidKind" "NothingToUndo" false
  k_InvalidKind_Contradiction : P2 K mg "InvalidKind" "Contradiction" false
  k_InvalidKind_Impossible : P2 K mg "InvalidKind" "Impossible" false
  k_InvalidKind_InvalidCommand : P2 K mg "InvalidKind" "InvalidCommand" false
  k_InvalidKind_InvalidCounts : P2 K mg "InvalidKind" "InvalidCounts" false
  k_InvalidKind_InvalidEffects : P2 K mg "InvalidKind" "InvalidEffects" false
  k_InvalidKind_InvalidItems : P2 K mg "InvalidKind" "InvalidItems" false
  k_InvalidKind_InvalidKinds : P2 K mg "InvalidKind" "InvalidKinds" false
  k_InvalidKind_InvalidRecord : P2 K mg "InvalidKind" "InvalidRecord" false
  k_InvalidKind_InvalidSequence : P2 K mg "InvalidKind" "InvalidSequence" false
  k_InvalidKind_InvalidState : P2 K mg "InvalidKind" "InvalidState" false
  k_InvalidKind_InvalidText : P2 K mg "InvalidKind" "InvalidText" false
  k_InvalidKind_SameEffect : P2 K mg "InvalidKind" "SameEffect" false
  k_InvalidKind_TooLong : P2 K mg "InvalidKind" "TooLong" false
  k_InvalidKind_TooMany : P2 K mg "InvalidKind" "TooMany" false
  p_InvalidNumber : P1 K mg "InvalidNumber"
  k_InvalidNumber_InvalidKind : P2 K mg "InvalidNumber" "InvalidKind" false
  k_InvalidNumber_InvalidNumber : P2 K mg "InvalidNumber" "InvalidNumber" true
  k_InvalidNumber_InvalidPosition : P2 K mg "InvalidNumber" "InvalidPosition" false
  k_InvalidNumber_NothingToUndo : P2 K mg "InvalidNumber" "NothingToUndo" false
  k_InvalidNumber_Contradiction : P2 K mg "InvalidNumber" "Contradiction" false
  k_InvalidNumber_Impossible : P2 K mg "InvalidNumber" "Impossible" false
  k_InvalidNumber_InvalidCommand : P2 K mg "InvalidNumber" "InvalidCommand" false
  k_InvalidNumber_InvalidCounts : P2 K mg "InvalidNumber" "InvalidCounts" false
  k_InvalidNumber_InvalidEffects : P2 K mg "InvalidNumber" "InvalidEffects" false
  k_InvalidNumber_InvalidItems : P2 K mg "InvalidNumber" "InvalidItems" false
  k_InvalidNumber_InvalidKinds : P2 K mg "InvalidNumber" "InvalidKinds" false
  k_InvalidNumber_InvalidRecord : P2 K mg "InvalidNumber" "InvalidRecord" false
  k_InvalidNumber_InvalidSequence : P2 K mg "InvalidNumber" "InvalidSequence" false
  k_InvalidNumber_InvalidState : P2 K mg "InvalidNumber" "InvalidState" false
  k_InvalidNumber_InvalidText : P2 K mg "InvalidNumber" "InvalidText" false
  k_InvalidNumber_SameEffect : P2 K mg "InvalidNumber" "SameEffect" false
  k_InvalidNumber_TooLong : P2 K mg "InvalidNumber" "TooLong" false
  k_InvalidNumber_TooMany : P2 K mg "InvalidNumber" "TooMany" false
  p_InvalidPosition : P1 K mg "InvalidPosition"
  k_InvalidPosition_InvalidKind : P2 K mg "InvalidPosition" "InvalidKind" false
  k_InvalidPosition_InvalidNumber : P2 K mg "InvalidPosition" "InvalidNumber" false
  k_InvalidPosition_InvalidPosition : P2 K mg "InvalidPosition" "InvalidPosition" true
  k_InvalidPosition_NothingToUndo : P2 K mg "InvalidPosition" "NothingToUndo" false
  k_InvalidPosition_Contradiction : P2 K mg "InvalidPosition" "Contradiction" false
  k_InvalidPosition_Impossible : P2 K mg "InvalidPosition" "Impossible" false
  k_InvalidPosition_InvalidCommand : P2 K mg "InvalidPosition" "InvalidCommand" false
  k_InvalidPosition_InvalidCounts : P2 K mg "InvalidPosition" "InvalidCounts" false
  k_InvalidPosition_InvalidEffects : P2 K mg "InvalidPosition" "InvalidEffects" false
  k_InvalidPosition_InvalidItems : P2 K mg "InvalidPosition" "InvalidItems" false
  k_InvalidPosition_InvalidKinds : P2 K mg "InvalidPosition" "InvalidKinds" false
  k_InvalidPosition_InvalidRecord : P2 K mg "InvalidPosition" "InvalidRecord" false
  k_InvalidPosition_InvalidSequence : P2 K mg "InvalidPosition" "InvalidSequence" false
  k_InvalidPosition_InvalidState : P2 K mg "InvalidPosition" "InvalidState" false
  k_InvalidPosition_InvalidText : P2 K mg "InvalidPosition" "InvalidText" false
  k_InvalidPosition_SameEffect : P2 K mg "InvalidPosition" "SameEffect" false
  k_InvalidPosition_TooLong : P2 K mg "InvalidPosition" "TooLong" false
  k_InvalidPosition_TooMany : P2 K mg "InvalidPosition" "TooMany" false
  p_NothingToUndo : P1 K mg "NothingToUndo"
  k_NothingToUndo_InvalidKind : P2 K mg "NothingToUndo" "InvalidKind" false
  k_NothingToUndo_InvalidNumber : P2 K mg "NothingToUndo" "InvalidNumber" false
  k_NothingToUndo_InvalidPosition : P2 K mg "NothingToUndo" "InvalidPosition" false
  k_NothingToUndo_NothingToUndo : P2 K mg "NothingToUndo" "NothingToUndo" true
  k_NothingToUndo_Contradiction : P2 K mg "NothingToUndo" "Contradiction" false
  k_NothingToUndo_Impossible : P2 K mg "NothingToUndo" "Impossible" false
  k_NothingToUndo_InvalidCommand : P2 K mg "NothingToUndo" "InvalidCommand" false
  k_NothingToUndo_InvalidCounts : P2 K mg "NothingToUndo" "InvalidCounts" false
  k_NothingToUndo_InvalidEffects : P2 K mg "NothingToUndo" "InvalidEffects" false
  k_NothingToUndo_InvalidItems : P2 K mg "NothingToUndo" "InvalidItems" false
  k_NothingToUndo_InvalidKinds : P2 K mg "NothingToUndo" "InvalidKinds" false
  k_NothingToUndo_InvalidRecord : P2 K mg "NothingToUndo" "InvalidRecord" false
  k_NothingToUndo_InvalidSequence : P2 K mg "NothingToUndo" "InvalidSequence" false
  k_NothingToUndo_InvalidState : P2 K mg "NothingToUndo" "InvalidState" false
  k_NothingToUndo_InvalidText : P2 K mg "NothingToUndo" "InvalidText" false
  k_NothingToUndo_SameEffect : P2 K mg "NothingToUndo" "SameEffect" false
  k_NothingToUndo_TooLong : P2 K mg "NothingToUndo" "TooLong" false
  k_NothingToUndo_TooMany : P2 K mg "NothingToUndo" "TooMany" false
  d_is_whole : Df K mg "is_whole" s_is_whole
  d_is_within : Df K mg "is_within" s_is_within
  d_is_kind : Df K mg "is_kind" s_is_kind
  d_check_kind : Df K mg "check_kind" s_check_kind
  d_waiting_number : Df K mg "waiting_number" s_waiting_number
  d_state_with : Df K mg "state_with" s_state_with
  d_leaving_number : Df K mg "leaving_number" s_leaving_number
  d_state_after_run : Df K mg "state_after_run" s_state_after_run
  d_add_range : Df K mg "add_range" s_add_range
  d_only_first : Df K mg "only_first" s_only_first
  d_without_first : Df K mg "without_first" s_without_first
  d_ranges_after_run : Df K mg "ranges_after_run" s_ranges_after_run
  d_blocks_of_run : Df K mg "blocks_of_run" s_blocks_of_run
  d_partner_in : Df K mg "partner_in" s_partner_in
  d_law_bag : Df K mg "_law_bag" s_law_bag
  d_law_stir : Df K mg "_law_stir" s_law_stir
  d_law_draw : Df K mg "_law_draw" s_law_draw
  d_law_shuffled : Df K mg "_law_shuffled" s_law_shuffled
  d_law_new : Df K mg "_law_new" s_law_new
  d_law_arrive : Df K mg "_law_arrive" s_law_arrive
  d_law_leave : Df K mg "_law_leave" s_law_leave
  d_law_do : Df K mg "_law_do" s_law_do
  d_law_call : Df K mg "_law_call" s_law_call
  d_law_apply : Df K mg "_law_apply" s_law_apply
  d_law_class : Df K mg "_law_class" s_law_class
  d_law_outcome : Df K mg "_law_outcome" s_law_outcome
  d_law_seen : Df K mg "_law_seen" s_law_seen
  d_law_bad_calls : Df K mg "_law_bad_calls" s_law_bad_calls
  sta : StaF K mg
theorem Top.law {P : Program} {w : World} {K : PySem.W.Frag} {mg : Str → Option Value} (Y : Top K mg) {f : Addr} {fd : FuncData} (F : Fun K "law" "law" s_law f fd) (base : Heap) : FnC P w K mg base f fd ["script"] (sp_law K) := by
  have T := Y.T
  obtain ⟨C, TS, D___init__, D_current_state, D_waiting_positions, D_arrival_count, D_pair_total, D_give_up_count, D_partner_at, D___len__, D_operations_done, D_remember, D_arrive, D_give_up, D_undo⟩ := Y.sta
  have q_InvalidKind : ∀ n, n ∈ allL → P2 K mg "InvalidKind" n (decide (n = "InvalidKind")) := by
    intro n hn
    simp only [allL, mineL, odd1, odd2, odd3, odd4, List.cons_append, List.nil_append, List.mem_cons, List.not_mem_nil, or_false] at hn
    rcases hn with rfl | rfl | rfl | rfl | rfl | rfl | rfl | rfl | rfl | rfl | rfl | rfl | rfl | rfl | rfl | rfl | rfl | rfl
    · exact Y.k_InvalidKind_InvalidKind
    · exact Y.k_InvalidKind_InvalidNumber
    · exact Y.k_InvalidKind_InvalidPosition
    · exact Y.k_InvalidKind_NothingToUndo
    · exact Y.k_InvalidKind_Contradiction
    · exact Y.k_InvalidKind_Impossible
    · exact Y.k_InvalidKind_InvalidCommand
    · exact Y.k_InvalidKind_InvalidCounts
    · exact Y.k_InvalidKind_InvalidEffects
    · exact Y.k_InvalidKind_InvalidItems
    · exact Y.k_InvalidKind_InvalidKinds
    · exact Y.k_InvalidKind_InvalidRecord
    · exact Y.k_InvalidKind_InvalidSequence
    · exact Y.k_InvalidKind_InvalidState
    · exact Y.k_InvalidKind_InvalidText
    · exact Y.k_InvalidKind_SameEffect
    · exact Y.k_InvalidKind_TooLong
    · exact Y.k_InvalidKind_TooMany
  obtain ⟨F_InvalidKind, X_InvalidKind⟩ := clsF_of Y.p_InvalidKind q_InvalidKind
  have q_InvalidNumber : ∀ n, n ∈ allL → P2 K mg "InvalidNumber" n (decide (n = "InvalidNumber")) := by
    intro n hn
    simp only [allL, mineL, odd1, odd2, odd3, odd4, List.cons_append, List.nil_append, List.mem_cons, List.not_mem_nil, or_false] at hn
    rcases hn with rfl | rfl | rfl | rfl | rfl | rfl | rfl | rfl | rfl | rfl | rfl | rfl | rfl | rfl | rfl | rfl | rfl | rfl
    · exact Y.k_InvalidNumber_InvalidKind
    · exact Y.k_InvalidNumber_InvalidNumber
    · exact Y.k_InvalidNumber_InvalidPosition
    · exact Y.k_InvalidNumber_NothingToUndo
    · exact Y.k_InvalidNumber_Contradiction
    · exact Y.k_InvalidNumber_Impossible
    · exact Y.k_InvalidNumber_InvalidCommand
    · exact Y.k_InvalidNumber_InvalidCounts
    · exact Y.k_InvalidNumber_InvalidEffects
    · exact Y.k_InvalidNumber_InvalidItems
    · exact Y.k_InvalidNumber_InvalidKinds
    · exact Y.k_InvalidNumber_InvalidRecord
    · exact Y.k_InvalidNumber_InvalidSequence
    · exact Y.k_InvalidNumber_InvalidState
    · exact Y.k_InvalidNumber_InvalidText
    · exact Y.k_InvalidNumber_SameEffect
    · exact Y.k_InvalidNumber_TooLong
    · exact Y.k_InvalidNumber_TooMany
  obtain ⟨F_InvalidNumber, X_InvalidNumber⟩ := clsF_of Y.p_InvalidNumber q_InvalidNumber
  have q_InvalidPosition : ∀ n, n ∈ allL → P2 K mg "InvalidPosition" n (decide (n = "InvalidPosition")) := by
    intro n hn
    simp only [allL, mineL, odd1, odd2, odd3, odd4, List.cons_append, List.nil_append, List.mem_cons, List.not_mem_nil, or_false] at hn
    rcases hn with rfl | rfl | rfl | rfl | rfl | rfl | rfl | rfl | rfl | rfl | rfl | rfl | rfl | rfl | rfl | rfl | rfl | rfl
    · exact Y.k_InvalidPosition_InvalidKind
    · exact Y.k_InvalidPosition_InvalidNumber
    · exact Y.k_InvalidPosition_InvalidPosition
    · exact Y.k_InvalidPosition_NothingToUndo
    · exact Y.k_InvalidPosition_Contradiction
    · exact Y.k_InvalidPosition_Impossible
    · exact Y.k_InvalidPosition_InvalidCommand
    · exact Y.k_InvalidPosition_InvalidCounts
    · exact Y.k_InvalidPosition_InvalidEffects
    · exact Y.k_InvalidPosition_InvalidItems
    · exact Y.k_InvalidPosition_InvalidKinds
    · exact Y.k_InvalidPosition_InvalidRecord
    · exact Y.k_InvalidPosition_InvalidSequence
    · exact Y.k_InvalidPosition_InvalidState
    · exact Y.k_InvalidPosition_InvalidText
    · exact Y.k_InvalidPosition_SameEffect
    · exact Y.k_InvalidPosition_TooLong
    · exact Y.k_InvalidPosition_TooMany
  obtain ⟨F_InvalidPosition, X_InvalidPosition⟩ := clsF_of Y.p_InvalidPosition q_InvalidPosition
  have q_NothingToUndo : ∀ n, n ∈ allL → P2 K mg "NothingToUndo" n (decide (n = "NothingToUndo")) := by
    intro n hn
    simp only [allL, mineL, odd1, odd2, odd3, odd4, List.cons_append, List.nil_append, List.mem_cons, List.not_mem_nil, or_false] at hn
    rcases hn with rfl | rfl | rfl | rfl | rfl | rfl | rfl | rfl | rfl | rfl | rfl | rfl | rfl | rfl | rfl | rfl | rfl | rfl
    · exact Y.k_NothingToUndo_InvalidKind
    · exact Y.k_NothingToUndo_InvalidNumber
    · exact Y.k_NothingToUndo_InvalidPosition
    · exact Y.k_NothingToUndo_NothingToUndo
    · exact Y.k_NothingToUndo_Contradiction
    · exact Y.k_NothingToUndo_Impossible
    · exact Y.k_NothingToUndo_InvalidCommand
    · exact Y.k_NothingToUndo_InvalidCounts
    · exact Y.k_NothingToUndo_InvalidEffects
    · exact Y.k_NothingToUndo_InvalidItems
    · exact Y.k_NothingToUndo_InvalidKinds
    · exact Y.k_NothingToUndo_InvalidRecord
    · exact Y.k_NothingToUndo_InvalidSequence
    · exact Y.k_NothingToUndo_InvalidState
    · exact Y.k_NothingToUndo_InvalidText
    · exact Y.k_NothingToUndo_SameEffect
    · exact Y.k_NothingToUndo_TooLong
    · exact Y.k_NothingToUndo_TooMany
  obtain ⟨F_NothingToUndo, X_NothingToUndo⟩ := clsF_of Y.p_NothingToUndo q_NothingToUndo
  have CM := cmg_of Y.p_InvalidKind q_InvalidKind
  have g_is_whole := ok_is_whole (P := P) (w := w) (base := base) Y.d_is_whole T
  have g_is_within := ok_is_within (P := P) (w := w) (base := base) Y.d_is_within g_is_whole
  have g_is_kind := ok_is_kind (P := P) (w := w) (base := base) Y.d_is_kind T
  have g_waiting_number := ok_waiting_number (P := P) (w := w) (base := base) Y.d_waiting_number
  have g_leaving_number := ok_leaving_number (P := P) (w := w) (base := base) Y.d_leaving_number T
  have g_state_with := ok_state_with (P := P) (w := w) (base := base) Y.d_state_with
  have g_state_after_run := ok_state_after_run (P := P) (w := w) (base := base) Y.d_state_after_run g_waiting_number g_state_with
  have g_without_first := ok_without_first (P := P) (w := w) (base := base) Y.d_without_first T
  have g_blocks_of_run := ok_blocks_of_run (P := P) (w := w) (base := base) Y.d_blocks_of_run T
  have g_partner_in := ok_partner_in (P := P) (w := w) (base := base) Y.d_partner_in
  have g_law_bag := ok_law_bag (P := P) (w := w) (base := base) Y.d_law_bag T
  have g_law_stir := ok_law_stir (P := P) (w := w) (base := base) Y.d_law_stir T
  have g_law_draw := ok_law_draw (P := P) (w := w) (base := base) Y.d_law_draw T g_law_stir
  have g_check_kind := ok_check_kind (P := P) (w := w) (base := base) Y.d_check_kind g_is_kind
  have g_only_first := ok_only_first (P := P) (w := w) (base := base) Y.d_only_first T
  have g_add_range := ok_add_range (P := P) (w := w) (base := base) Y.d_add_range
  have g_ranges_after_run := ok_ranges_after_run (P := P) (w := w) (base := base) Y.d_ranges_after_run g_without_first g_add_range
  have g_Station___init__ := ok_Station___init__ (P := P) (w := w) (base := base) D___init__ TS
  have g_Station_current_state := ok_Station_current_state (P := P) (w := w) (base := base) D_current_state TS
  have g_Station_waiting_positions := ok_Station_waiting_positions (P := P) (w := w) (base := base) D_waiting_positions T TS
  have g_Station_arrival_count := ok_Station_arrival_count (P := P) (w := w) (base := base) D_arrival_count TS
  have g_Station_pair_total := ok_Station_pair_total (P := P) (w := w) (base := base) D_pair_total TS
  have g_Station_give_up_count := ok_Station_give_up_count (P := P) (w := w) (base := base) D_give_up_count TS g_waiting_number
  have g_Station_partner_at := ok_Station_partner_at (P := P) (w := w) (base := base) D_partner_at TS g_is_within g_partner_in
  have g_law_new := ok_law_new (P := P) (w := w) (base := base) Y.d_law_new
  have g_law_arrive := ok_law_arrive (P := P) (w := w) (base := base) Y.d_law_arrive T
  have g_law_leave := ok_law_leave (P := P) (w := w) (base := base) Y.d_law_leave T
  have g_law_do := ok_law_do (P := P) (w := w) (base := base) Y.d_law_do g_law_arrive g_law_leave
  have g_law_call := ok_law_call (P := P) (w := w) (base := base) Y.d_law_call T g_law_draw
  have g_Station___len__ := ok_Station___len__ (P := P) (w := w) (base := base) D___len__ T TS
  have g_Station_operations_done := ok_Station_operations_done (P := P) (w := w) (base := base) D_operations_done TS
  have g_Station_remember := ok_Station_remember (P := P) (w := w) (base := base) D_remember TS
  have g_Station_arrive := ok_Station_arrive (P := P) (w := w) (base := base) D_arrive T TS g_check_kind g_is_within g_Station_remember g_leaving_number g_blocks_of_run g_ranges_after_run g_state_after_run
  have g_Station_give_up := ok_Station_give_up (P := P) (w := w) (base := base) D_give_up T TS g_waiting_number g_is_within g_Station_remember g_without_first g_only_first g_state_with
  have g_Station_undo := ok_Station_undo (P := P) (w := w) (base := base) D_undo T TS
  have g_law_apply := ok_law_apply (P := P) (w := w) (base := base) Y.d_law_apply TS g_Station_arrive g_Station_give_up
  have gD_is_whole := okD_is_whole (P := P) (w := w) (base := base) Y.d_is_whole T
  have gD_is_within := okD_is_within (P := P) (w := w) (base := base) Y.d_is_within gD_is_whole
  have gD_is_kind := okD_is_kind (P := P) (w := w) (base := base) Y.d_is_kind T
  have gX_check_kind := okX_check_kind (P := P) (w := w) (base := base) Y.d_check_kind X_InvalidKind gD_is_kind
  have gX_Station_arrive := okX_Station_arrive (P := P) (w := w) (base := base) D_arrive T TS X_InvalidNumber gX_check_kind gD_is_within g_Station_remember g_leaving_number g_blocks_of_run g_ranges_after_run g_state_after_run
  have gX_Station_give_up := okX_Station_give_up (P := P) (w := w) (base := base) D_give_up T TS X_InvalidNumber g_waiting_number gD_is_within g_Station_remember g_without_first g_only_first g_state_with
  have gX_Station_partner_at := okX_Station_partner_at (P := P) (w := w) (base := base) D_partner_at TS X_InvalidPosition gD_is_within g_partner_in
  have gX_Station_undo := okX_Station_undo (P := P) (w := w) (base := base) D_undo T TS X_NothingToUndo
  have g_law_class := ok_law_class (P := P) (w := w) (base := base) (CX := CX0) Y.d_law_class T CM
  have gX_law_apply := okX_law_apply (P := P) (w := w) (base := base) Y.d_law_apply TS g_Station_arrive g_Station_give_up gX_Station_arrive gX_Station_give_up
  have g_law_outcome := ok_law_outcome (P := P) (w := w) (base := base) Y.d_law_outcome TS CM F_InvalidKind F_InvalidNumber F_InvalidPosition F_NothingToUndo g_law_class g_Station_undo gX_Station_undo gX_Station_partner_at gX_law_apply
  have g_law_seen := ok_law_seen (P := P) (w := w) (base := base) Y.d_law_seen T TS g_Station_current_state g_Station_waiting_positions g_Station_arrival_count g_Station_pair_total g_Station_give_up_count g_Station_operations_done g_Station___len__
  have g_law_shuffled := ok_law_shuffled (P := P) (w := w) (base := base) Y.d_law_shuffled T g_law_draw
  have g_law_bad_calls := ok_law_bad_calls (P := P) (w := w) (base := base) Y.d_law_bad_calls T g_law_draw
  exact fn_law F T TS g_law_bag g_law_draw g_Station___init__ g_law_new g_law_call g_law_do g_law_apply g_law_seen g_law_bad_calls g_law_shuffled g_law_outcome
theorem all_mk {P : Program} {w : World} {K : PySem.W.Frag} {h : Heap} {mg : Str → Option Value} {fa f : Addr} {od an : Option Addr} {sl : Array (Option Value)} {oc kV dc pm cd ct : Value} (X : K.In h) (G : h.Ns mainGlobals mg) (hfa : mg "law" = some (.ref fa)) (a : PySem.W.nsIn K mainGlobals "law" = some (some (.ref f)))
    (l : K.lookup f = some ⟨oc, od, .func (PySem.W.fnOf "law" "law" (defArgs s_law) (defBody s_law) (defScope s_law) .none kV dc pm an cd ct), sl⟩) (c : PySem.W.codeIn K cd "law" = true) (k : PySem.W.keepIn K (.ref f) = true) (Y : Top K mg) :
    ∃ fd : FuncData, (∀ (s : Shared) (v : Value), BindsTo s fd ⟨[v], []⟩ [("script", v)]) ∧ ∀ base : Heap, K.In base → base.Ns mainGlobals mg → FnC P w K mg base fa fd ["script"] (sp_law K) := by
  have e := hfa.symm.trans (PySem.W.mg_of X G a)
  cases e
  exact ⟨_, fun s v => .of_eq rfl, fun base _ _ => Y.law (fun_mk (st := s_law) l c k) base⟩
end UP
open PySem PySem.W PyProof.Rows
set_option maxHeartbeats 0 in
theorem PySem.Challenge.cw_unlikepairs_k51_station_errors_holds : PySem.Challenge.rw_unlikepairs_k51_station_errors.Holds := by
  w_on; o_law; k_head; (case hw => w_witness2)
  k_fill
  refine UP.walkC (l := PySem.Challenge.rw_unlikepairs_k51_station_errors) (n := 63) (x := "script") (sp := fun w => UP.sp_law _) rfl (by decide) rfl (fun w h Y => PySem.W.kIn_of Y) ?F (fun _ _ a ns hl hS => ⟨a, ns, rfl, hS, hl, fun _ => rfl⟩)
  case F =>
    intro w mg fa h KX G hmg
    refine' UP.all_mk KX G hmg ?a ?l ?c ?k ?Y
    (case a => k_is); (case l => k_is); (case c => k_is); (case k => k_is)
    case Y =>
      constructor
      · constructor
        · refine' PySem.W.mg_none_of KX G ?z; (case z => k_is)
        · refine' PySem.W.mg_none_of KX G ?z; (case z => k_is)
        · refine' PySem.W.mg_none_of KX G ?z; (case z => k_is)
        · refine' PySem.W.mg_none_of KX G ?z; (case z => k_is)
        · refine' PySem.W.mg_none_of KX G ?z; (case z => k_is)
        · refine' PySem.W.mg_none_of KX G ?z; (case z => k_is)
        · refine' PySem.W.mg_none_of KX G ?z; (case z => k_is)
        · refine' PySem.W.mg_none_of KX G ?z; (case z => k_is)
        · refine' PySem.W.mg_none_of KX G ?z; (case z => k_is)
        · refine' PySem.W.mg_none_of KX G ?z; (case z => k_is)
        · refine' PySem.W.mg_none_of KX G ?z; (case z => k_is)
        · refine' PySem.W.mg_none_of KX G ?z; (case z => k_is)
        · refine' PySem.W.mg_none_of KX G ?z; (case z => k_is)
        · refine' PySem.W.mg_none_of KX G ?z; (case z => k_is)
        · refine' PySem.W.mg_none_of KX G ?z; (case z => k_is)
        · refine' PySem.W.mg_none_of KX G ?z; (case z => k_is)
        · refine' PySem.W.mg_none_of KX G ?z; (case z => k_is)
        · refine' PySem.W.mg_none_of KX G ?z; (case z => k_is)
        · refine' PySem.W.mg_none_of KX G ?z; (case z => k_is)
        · refine' PySem.W.mg_none_of KX G ?z; (case z => k_is)
        · refine' PySem.W.mg_none_of KX G ?z; (case z => k_is)
        · refine' PySem.W.mg_none_of KX G ?z; (case z => k_is)
        · refine' UP.cst_mk KX G ?z; (case z => k_is)
        · refine' UP.cst_mk KX G ?z; (case z => k_is)
      · refine' UP.p1_mk KX G ?a ?b ?x ?k ?bs ?t ?e1 ?e2 ?e3 ?e4 ?e5 ?e6 ?e7 ?m ?k1 ?k2; (case a => k_is); (case b => k_is); (case x => first | k_exc | k_is); (case k => k_is); (case bs => k_is); (case t => k_is); (case e1 => k_is); (case e2 => k_is); (case e3 => k_is); (case e4 => k_is); (case e5 => k_is); (case e6 => k_is); (case e7 => k_is); (case m => kts_exm); (case k1 => kit_is); (case k2 => kit_is)
      · refine' UP.p2_mk KX G ?a ?b ?k; (case a => k_is); (case b => k_is); (case k => kit_is)
      · refine' UP.p2_mk KX G ?a ?b ?k; (case a => k_is); (case b => k_is); (case k => kit_is)
      · refine' UP.p2_mk KX G ?a ?b ?k; (case a => k_is); (case b => k_is); (case k => kit_is)
      · refine' UP.p2_mk KX G ?a ?b ?k; (case a => k_is); (case b => k_is); (case k => kit_is)
      · refine' UP.p2_mk KX G ?a ?b ?k; (case a => k_is); (case b => k_is); (case k => kit_is)
      · refine' UP.p2_mk KX G ?a ?b ?k; (case a => k_is); (case b => k_is); (case k => kit_is)
      · refine' UP.p2_mk KX G ?a ?b ?k; (case a => k_is); (case b => k_is); (case k => kit_is)
      · refine' UP.p2_mk KX G ?a ?b ?k; (case a => k_is); (case b => k_is); (case k => kit_is)
      · refine' UP.p2_mk KX G ?a ?b ?k; (case a => k_is); (case b => k_is); (case k => kit_is)
      · refine' UP.p2_mk KX G ?a ?b ?k; (case a => k_is); (case b => k_is); (case k => kit_is)
      · refine' UP.p2_mk KX G ?a ?b ?k; (case a => k_is); (case b => k_is); (case k => kit_is)
      · refine' UP.p2_mk KX G ?a ?b ?k; (case a => k_is); (case b => k_is); (case k => kit_is)
      · refine' UP.p2_mk KX G ?a ?b ?k; (case a => k_is); (case b => k_is); (case k => kit_is)
      · refine' UP.p2_mk KX G ?a ?b ?k; (case a => k_is); (case b => k_is); (case k => kit_is)
      · refine' UP.p2_mk KX G ?a ?b ?k; (case a => k_is); (case b => k_is); (case k => kit_is)
      · refine' UP.p2_mk KX G ?a ?b ?k; (case a => k_is); (case b => k_is); (case k => kit_is)
      · refine' UP.p2_mk KX G ?a ?b ?k; (case a => k_is); (case b => k_is); (case k => kit_is)
      · refine' UP.p2_mk KX G ?a ?b ?k; (case a => k_is); (case b => k_is); (case k => kit_is)
      · refine' UP.p1_mk KX G ?a ?b ?x ?k ?bs ?t ?e1 ?e2 ?e3 ?e4 ?e5 ?e6 ?e7 ?m ?k1 ?k2; (case a => k_is); (case b => k_is); (case x => first | k_exc | k_is); (case k => k_is); (case bs => k_is); (case t => k_is); (case e1 => k_is); (case e2 => k_is); (case e3 => k_is); (case e4 => k_is); (case e5 => k_is); (case e6 => k_is); (case e7 => k_is); (case m => kts_exm); (case k1 => kit_is); (case k2 => kit_is)
      · refine' UP.p2_mk KX G ?a ?b ?k; (case a => k_is); (case b => k_is); (case k => kit_is)
      · refine' UP.p2_mk KX G ?a ?b ?k; (case a => k_is); (case b => k_is); (case k => kit_is)
      · refine' UP.p2_mk KX G ?a ?b ?k; (case a => k_is); (case b => k_is); (case k => kit_is)
      · refine' UP.p2_mk KX G ?a ?b ?k; (case a => k_is); (case b => k_is); (case k => kit_is)
      · refine' UP.p2_mk KX G ?a ?b ?k; (case a => k_is); (case b => k_is); (case k => kit_is)
      · refine' UP.p2_mk KX G ?a ?b ?k; (case a => k_is); (case b => k_is); (case k => kit_is)
      · refine' UP.p2_mk KX G ?a ?b ?k; (case a => k_is); (case b => k_is); (case k => kit_is)
      · refine' UP.p2_mk KX G ?a ?b ?k; (case a => k_is); (case b => k_is); (case k => kit_is)
      · refine' UP.p2_mk KX G ?a ?b ?k; (case a => k_is); (case b => k_is); (case k => kit_is)
      · refine' UP.p2_mk KX G ?a ?b ?k; (case a => k_is); (case b => k_is); (case k => kit_is)
      · refine' UP.p2_mk KX G ?a ?b ?k; (case a => k_is); (case b => k_is); (case k => kit_is)
      · refine' UP.p2_mk KX G ?a ?b ?k; (case a => k_is); (case b => k_is); (case k => kit_is)
      · refine' UP.p2_mk KX G ?a ?b ?k; (case a => k_is); (case b => k_is); (case k => kit_is)
      · refine' UP.p2_mk KX G ?a ?b ?k; (case a => k_is); (case b => k_is); (case k => kit_is)
      · refine' UP.p2_mk KX G ?a ?b ?k; (case a => k_is); (case b => k_is); (case k => kit_is)
      · refine' UP.p2_mk KX G ?a ?b ?k; (case a => k_is); (case b => k_is); (case k => kit_is)
      · refine' UP.p2_mk KX G ?a ?b ?k; (case a => k_is); (case b => k_is); (case k => kit_is)
      · refine' UP.p2_mk KX G ?a ?b ?k; (case a => k_is); (case b => k_is); (case k => kit_is)
      · refine' UP.p1_mk KX G ?a ?b ?x ?k ?bs ?t ?e1 ?e2 ?e3 ?e4 ?e5 ?e6 ?e7 ?m ?k1 ?k2; (case a => k_is); (case b => k_is); (case x => first | k_exc | k_is); (case k => k_is); (case bs => k_is); (case t => k_is); (case e1 => k_is); (case e2 => k_is); (case e3 => k_is); (case e4 => k_is); (case e5 => k_is); (case e6 => k_is); (case e7 => k_is); (case m => kts_exm); (case k1 => kit_is); (case k2 => kit_is)
      · refine' UP.p2_mk KX G ?a ?b ?k; (case a => k_is); (case b => k_is); (case k => kit_is)
      · refine' UP.p2_mk KX G ?a ?b ?k; (case a => k_is); (case b => k_is); (case k => kit_is)
      · refine' UP.p2_mk KX G ?a ?b ?k; (case a => k_is); (case b => k_is); (case k => kit_is)
      · refine' UP.p2_mk KX G ?a ?b ?k; (case a => k_is); (case b => k_is); (case k => kit_is)
      · refine' UP.p2_mk KX G ?a ?b ?k; (case a => k_is); (case b => k_is); (case k => kit_is)
      · refine' UP.p2_mk KX G ?a ?b ?k; (case a => k_is); (case b => k_is); (case k => kit_is)
      · refine' UP.p2_mk KX G ?a ?b ?k; (case a => k_is); (case b => k_is); (case k => kit_is)
      · refine' UP.p2_mk KX G ?a ?b ?k; (case a => k_is); (case b => k_is); (case k => kit_is)
      · refine' UP.p2_mk KX G ?a ?b ?k; (case a => k_is); (case b => k_is); (case k => kit_is)
      · refine' UP.p2_mk KX G ?a ?b ?k; (case a => k_is); (case b => k_is); (case k => kit_is)
      · refine' UP.p2_mk KX G ?a ?b ?k; (case a => k_is); (case b => k_is); (case k => kit_is)
      · refine' UP.p2_mk KX G ?a ?b ?k; (case a => k_is); (case b => k_is); (case k => kit_is)
      · refine' UP.p2_mk KX G ?a ?b ?k; (case a => k_is); (case b => k_is); (case k => kit_is)
      · refine' UP.p2_mk KX G ?a ?b ?k; (case a => k_is); (case b => k_is); (case k => kit_is)
      · refine' UP.p2_mk KX G ?a ?b ?k; (case a => k_is); (case b => k_is); (case k => kit_is)
      · refine' UP.p2_mk KX G ?a ?b ?k; (case a => k_is); (case b => k_is); (case k => kit_is)
      · refine' UP.p2_mk KX G ?a ?b ?k; (case a => k_is); (case b => k_is); (case k => kit_is)
      · refine' UP.p2_mk KX G ?a ?b ?k; (case a => k_is); (case b => k_is); (case k => kit_is)
      · refine' UP.p1_mk KX G ?a ?b ?x ?k ?bs ?t ?e1 ?e2 ?e3 ?e4 ?e5 ?e6 ?e7 ?m ?k1 ?k2; (case a => k_is); (case b => k_is); (case x => first | k_exc | k_is); (case k => k_is); (case bs => k_is); (case t => k_is); (case e1 => k_is); (case e2 => k_is); (case e3 => k_is); (case e4 => k_is); (case e5 => k_is); (case e6 => k_is); (case e7 => k_is); (case m => kts_exm); (case k1 => kit_is); (case k2 => kit_is)
      · refine' UP.p2_mk KX G ?a ?b ?k; (case a => k_is); (case b => k_is); (case k => kit_is)
      · refine' UP.p2_mk KX G ?a ?b ?k; (case a => k_is); (case b => k_is); (case k => kit_is)
      · refine' UP.p2_mk KX G ?a ?b ?k; (case a => k_is); (case b => k_is); (case k => kit_is)
      · refine' UP.p2_mk KX G ?a ?b ?k; (case a => k_is); (case b => k_is); (case k => kit_is)
      · refine' UP.p2_mk KX G ?a ?b ?k; (case a => k_is); (case b => k_is); (case k => kit_is)
      · refine' UP.p2_mk KX G ?a ?b ?k; (case a => k_is); (case b => k_is); (case k => kit_is)
      · refine' UP.p2_mk KX G ?a ?b ?k; (case a => k_is); (case b => k_is); (case k => kit_is)
      · refine' UP.p2_mk KX G ?a ?b ?k; (case a => k_is); (case b => k_is); (case k => kit_is)
      · refine' UP.p2_mk KX G ?a ?b ?k; (case a => k_is); (case b => k_is); (case k => kit_is)
      · refine' UP.p2_mk KX G ?a ?b ?k; (case a => k_is); (case b => k_is); (case k => kit_is)
      · refine' UP.p2_mk KX G ?a ?b ?k; (case a => k_is); (case b => k_is); (case k => kit_is)
      · refine' UP.p2_mk KX G ?a ?b ?k; (case a => k_is); (case b => k_is); (case k => kit_is)
      · refine' UP.p2_mk KX G ?a ?b ?k; (case a => k_is); (case b => k_is); (case k => kit_is)
      · refine' UP.p2_mk KX G ?a ?b ?k; (case a => k_is); (case b => k_is); (case k => kit_is)
      · refine' UP.p2_mk KX G ?a ?b ?k; (case a => k_is); (case b => k_is); (case k => kit_is)
      · refine' UP.p2_mk KX G ?a ?b ?k; (case a => k_is); (case b => k_is); (case k => kit_is)
      · refine' UP.p2_mk KX G ?a ?b ?k; (case a => k_is); (case b => k_is); (case k => kit_is)
      · refine' UP.p2_mk KX G ?a ?b ?k; (case a => k_is); (case b => k_is); (case k => kit_is)
      · refine' UP.df_mk KX G ?a ?l ?c ?k; (case a => k_is); (case l => k_is); (case c => k_is); (case k => k_is)
      · refine' UP.df_mk KX G ?a ?l ?c ?k; (case a => k_is); (case l => k_is); (case c => k_is); (case k => k_is)
      · refine' UP.df_mk KX G ?a ?l ?c ?k; (case a => k_is); (case l => k_is); (case c => k_is); (case k => k_is)
      · refine' UP.df_mk KX G ?a ?l ?c ?k; (case a => k_is); (case l => k_is); (case c => k_is); (case k => k_is)
      · refine' UP.df_mk KX G ?a ?l ?c ?k; (case a => k_is); (case l => k_is); (case c => k_is); (case k => k_is)
      · refine' UP.df_mk KX G ?a ?l ?c ?k; (case a => k_is); (case l => k_is); (case c => k_is); (case k => k_is)
      · refine' UP.df_mk KX G ?a ?l ?c ?k; (case a => k_is); (case l => k_is); (case c => k_is); (case k => k_is)
      · refine' UP.df_mk KX G ?a ?l ?c ?k; (case a => k_is); (case l => k_is); (case c => k_is); (case k => k_is)
      · refine' UP.df_mk KX G ?a ?l ?c ?k; (case a => k_is); (case l => k_is); (case c => k_is); (case k => k_is)
      · refine' UP.df_mk KX G ?a ?l ?c ?k; (case a => k_is); (case l => k_is); (case c => k_is); (case k => k_is)
      · refine' UP.df_mk KX G ?a ?l ?c ?k; (case a => k_is); (case l => k_is); (case c => k_is); (case k => k_is)
      · refine' UP.df_mk KX G ?a ?l ?c ?k; (case a => k_is); (case l => k_is); (case c => k_is); (case k => k_is)
      · refine' UP.df_mk KX G ?a ?l ?c ?k; (case a => k_is); (case l => k_is); (case c => k_is); (case k => k_is)
      · refine' UP.df_mk KX G ?a ?l ?c ?k; (case a => k_is); (case l => k_is); (case c => k_is); (case k => k_is)
      · refine' UP.df_mk KX G ?a ?l ?c ?k; (case a => k_is); (case l => k_is); (case c => k_is); (case k => k_is)
      · refine' UP.df_mk KX G ?a ?l ?c ?k; (case a => k_is); (case l => k_is); (case c => k_is); (case k => k_is)
      · refine' UP.df_mk KX G ?a ?l ?c ?k; (case a => k_is); (case l => k_is); (case c => k_is); (case k => k_is)
      · refine' UP.df_mk KX G ?a ?l ?c ?k; (case a => k_is); (case l => k_is); (case c => k_is); (case k => k_is)
      · refine' UP.df_mk KX G ?a ?l ?c ?k; (case a => k_is); (case l => k_is); (case c => k_is); (case k => k_is)
      · refine' UP.df_mk KX G ?a ?l ?c ?k; (case a => k_is); (case l => k_is); (case c => k_is); (case k => k_is)
      · refine' UP.df_mk KX G ?a ?l ?c ?k; (case a => k_is); (case l => k_is); (case c => k_is); (case k => k_is)
      · refine' UP.df_mk KX G ?a ?l ?c ?k; (case a => k_is); (case l => k_is); (case c => k_is); (case k => k_is)
      · refine' UP.df_mk KX G ?a ?l ?c ?k; (case a => k_is); (case l => k_is); (case c => k_is); (case k => k_is)
      · refine' UP.df_mk KX G ?a ?l ?c ?k; (case a => k_is); (case l => k_is); (case c => k_is); (case k => k_is)
      · refine' UP.df_mk KX G ?a ?l ?c ?k; (case a => k_is); (case l => k_is); (case c => k_is); (case k => k_is)
      · refine' UP.df_mk KX G ?a ?l ?c ?k; (case a => k_is); (case l => k_is); (case c => k_is); (case k => k_is)
      · refine' UP.df_mk KX G ?a ?l ?c ?k; (case a => k_is); (case l => k_is); (case c => k_is); (case k => k_is)
      · refine' UP.df_mk KX G ?a ?l ?c ?k; (case a => k_is); (case l => k_is); (case c => k_is); (case k => k_is)
      · refine' UP.sta_mk KX G ?aC ?pg ?hd ?po ?sa ?mk ?kc ?z0 ?z1 ?z2 ?z3 ?z4 ?z5 ?a0 ?i0 ?l0 ?c0 ?k0 ?a1 ?i1 ?l1 ?c1 ?k1 ?a2 ?i2 ?l2 ?c2 ?k2 ?a3 ?i3 ?l3 ?c3 ?k3 ?a4 ?i4 ?l4 ?c4 ?k4 ?a5 ?i5 ?l5 ?c5 ?k5 ?a6 ?i6 ?l6 ?c6 ?k6 ?a7 ?i7 ?l7 ?c7 ?k7 ?a8 ?i8 ?l8 ?c8 ?k8 ?a9 ?i9 ?l9 ?c9 ?k9 ?a10 ?i10 ?l10 ?t10 ?c10 ?k10 ?a11 ?i11 ?l11 ?t11 ?c11 ?k11 ?a12 ?i12 ?l12 ?c12 ?k12
        (case aC => k_is)
        (case pg => k_is)
        (case hd => k_is)
        (case po => k_is)
        (case sa => k_is)
        (case mk => k_is)
        (case kc => k_is)
        (case z0 => k_is)
        (case z1 => k_is)
        (case z2 => k_is)
        (case z3 => k_is)
        (case z4 => k_is)
        (case z5 => k_is)
        (case a0 => k_is)
        (case i0 => k_is)
        (case l0 => k_is)
        (case c0 => k_is)
        (case k0 => k_is)
        (case a1 => k_is)
        (case i1 => k_is)
        (case l1 => k_is)
        (case c1 => k_is)
        (case k1 => k_is)
        (case a2 => k_is)
        (case i2 => k_is)
        (case l2 => k_is)
        (case c2 => k_is)
        (case k2 => k_is)
        (case a3 => k_is)
        (case i3 => k_is)
        (case l3 => k_is)
        (case c3 => k_is)
        (case k3 => k_is)
        (case a4 => k_is)
        (case i4 => k_is)
        (case l4 => k_is)
        (case c4 => k_is)
        (case k4 => k_is)
        (case a5 => k_is)
        (case i5 => k_is)
        (case l5 => k_is)
        (case c5 => k_is)
        (case k5 => k_is)
        (case a6 => k_is)
        (case i6 => k_is)
        (case l6 => k_is)
        (case c6 => k_is)
        (case k6 => k_is)
        (case a7 => k_is)
        (case i7 => k_is)
        (case l7 => k_is)
        (case c7 => k_is)
        (case k7 => k_is)
        (case a8 => k_is)
        (case i8 => k_is)
        (case l8 => k_is)
        (case c8 => k_is)
        (case k8 => k_is)
        (case a9 => k_is)
        (case i9 => k_is)
        (case l9 => k_is)
        (case c9 => k_is)
        (case k9 => k_is)
        (case a10 => k_is)
        (case i10 => k_is)
        (case l10 => k_is)
        (case t10 => k_is)
        (case c10 => k_is)
        (case k10 => k_is)
        (case a11 => k_is)
        (case i11 => k_is)
        (case l11 => k_is)
        (case t11 => k_is)
        (case c11 => k_is)
        (case k11 => k_is)
        (case a12 => k_is)
        (case i12 => k_is)
        (case l12 => k_is)
        (case c12 => k_is)
        (case k12 => k_is)
