import PyProof.Rows.All
import Wide.All
import OpenK.AllK
import Wide.FinOn
import HandS.ForMost
import HandS.Wide
import HandS.IsInst
import HandS.Defaults
import HandS.Codes
import HandS.Style
import PyProof.ReprRoads
import PyProof.ReprLen
import HandS.Zip
import HandS.NoneIn
import HandS.TupAny
import HandS.Small
import HandS.RaiseMore
import KE.KeyNested
import PyProof.DictRoadsH
import HandS.Text
import HandS.More
import HandS.Iter
import KE.GoesZip
import KE.GoesMore
import HandS.TupSets
import HandS.SetFor
import KE.LtData
import HandS.Hot
import HandS.HotCalls
import HandS.Comp
import PyProof.Seq
import PyProof.Rows.TupIter
import HandS.ExcIs
import HandS.ExcInit
import HandS.ExcCtx
import HandS.ExcField
import KE.KIsAll
import KE.KExcIs
import HandS.WordsExc
import HandS.ExcOwn
import HandS.TryOnly
import PyProof.CallFns
import PyProof.StrLoop
import HandS.List
import PyProof.Rows.SumAny
import PyProof.ZipIter
import HandS.Zip0
import KE.KUnpack
import PyProof.WalkInts
import KE.KDictZip
import HandS.ListItems
import PyProof.ListStr
import PyProof.EnumMake
import PyProof.Rows.EnumRows
import HandS.Deep
import PySem.Challenge.RW_unlikepairs_k42_conflicts_of_records
set_option Elab.async false
set_option linter.all false
set_option maxRecDepth 100000
set_option maxHeartbeats 4000000
namespace UP
open PySem PySem.Spec PyProof.Rows L2

/-! ### a def that keeps a promise, by its name -/
section
variable (P : Program) (w : World) (K : PySem.W.Frag) (mg : Str → Option Value) (base : Heap)
def Has (k : Nat) (x : Str) (ps : List Str) (sp : Sp) : Prop :=
  ∃ f fd, mg x = some (.ref f) ∧ PySem.W.keepIn K (.ref f) = true ∧ Binds K fd ps [] ∧ FnOk P w K mg base CX0 k f fd ps sp
def Df (x : Str) (st : Stmt) : Prop := ∃ f fd, mg x = some (.ref f) ∧ Fun K x x st f fd
end
theorem Df.of {K : PySem.W.Frag} {mg : Str → Option Value} {x : Str} {st : Stmt} {f : Addr} {fd : FuncData} (g : mg x = some (.ref f)) (F : Fun K x x st f fd) : Df K mg x st := ⟨f, fd, g, F⟩
section
variable {P : Program} {w : World} {K : PySem.W.Frag} {mg : Str → Option Value} {base : Heap}
theorem has_of {x : Str} {st : Stmt} {ps N : List Str} {k : Nat} {sp : Sp} (D : Df K mg x st) (S : FnScope N ps (defScope st))
    (hb : ∀ (kV doc pm : Value) (an : Option Addr) (cdv ct : Value) (us : List Value), us.length = ps.length → bindArgs (PySem.W.fnOf x x (defArgs st) (defBody st) (defScope st) .none kV doc pm an cdv ct) ⟨us, []⟩ = pure (ps.zip us))
    (len : ∀ vs H Q E, sp vs H Q E → vs.length = ps.length)
    (body : ∀ (f : Addr) (cdv : Value) (A : Around) (outer : List Env) (s : Shared) (H : Hp) (vs : List V) (Q : VK) (E : XK), Room k (A.deeper (envOfC x (defScope st) s.heap.objs.size f cdv)) → sp vs H Q E →
      ∃ t, PSs (cxOf CX0 P w K mg base N x (defScope st) f cdv A outer s H E).nox (defBody st) t ∧ t { nx := fun _ H' => Q .non H', rt := Q } (start N vs) H) :
    Has P w K mg base (k + 1) x ps sp := by
  obtain ⟨f, fd, g, F⟩ := D
  exact ⟨f, fd, g, F.kp, F.binds hb, F.ok S len fun cdv A outer s H vs Q E hr h => body f cdv A outer s H vs Q E hr h⟩
theorem Has.weak {x : Str} {ps : List Str} {k : Nat} {sp sp' : Sp} (h : Has P w K mg base k x ps sp) (e : sp = sp') : Has P w K mg base k x ps sp' := e ▸ h
end
section
variable {X : Cx}
theorem pe_callH {k : Nat} {x : Str} {ps : List Str} {sp : Sp} {p pos : Pos} {e : Expr} {es : List Expr} {t : TA} (G : Has X.prog X.w X.K X.mg X.base k x ps sp) (hr : Room k X.A) (hg : Gl X x) (ha : PA X (e :: es) t)
    (hdb : (x == ("__debug__" : Str)) = false := by decide) (he : starEach (e :: es) X.env = (false, eval e X.env) :: starEach es X.env := by rfl) (hpl : (backTo pos (starEach es X.env)).any (·.1) = false := by rfl) :
    PE X (.Call (.Name x p) (e :: es) [] pos) (tCall sp [] E0 t) := by
  obtain ⟨f, fd, g, kp, b, F⟩ := G
  exact pe_call F hr hg g kp b .nil pass0 ha hdb he hpl
theorem pe_glI {x : Str} {i : Int} {pos : Pos} (h : ∃ t, X.mg x = some (.int i t)) (hg : Gl X x) (hd : (x == ("__debug__" : Str)) = false := by decide) : PE X (.Name x pos) (tC (.int i)) := by
  obtain ⟨t, h⟩ := h
  exact pe_glob hg h ⟨t, rfl⟩ hd
end

/-! ### heaps -/
theorem same_upd {H : Hp} {p : Addr} {o : HO} (h : H p = none) : Same H (upd H p o) := fun b x e => by
  rw [upd_ne (ne_of_none e h)]
  exact e
/-- all but the object at sp is as it was -/
def But (sp : Addr) (H H' : Hp) : Prop := ∀ b o, b ≠ sp → H b = some o → H' b = some o
theorem Same.but {sp : Addr} {H H' : Hp} (h : Same H H') : But sp H H' := fun b o _ e => h b o e
theorem But.trans {sp : Addr} {H H1 H2 : Hp} (a : But sp H H1) (b : But sp H1 H2) : But sp H H2 := fun c o n e => b c o n (a c o n e)
theorem But.refl {sp : Addr} {H : Hp} : But sp H H := fun _ _ _ e => e
theorem but_upd {sp : Addr} {H : Hp} {o : HO} : But sp H (upd H sp o) := fun b x n e => by
  rw [upd_ne n]
  exact e
theorem small {n : Nat} (h : n ≤ 1000000) : n < sizeLine := Nat.lt_of_le_of_lt h (by decide)
theorem smallE {n : Nat} (h : n ≤ 1000000) : n ≤ sizeLine := Nat.le_of_lt (small h)

/-! ### runs and states -/
abbrev Run := Str × Int
def RunV (H : Hp) (v : V) (r : Run) : Prop := ∃ t, v = .ref t ∧ H t = some (.tup [.str r.1, .int r.2])
def Runs (H : Hp) (a : Addr) (rs : List Run) : Prop := ∃ xs, H a = some (.lst xs) ∧ Paired (RunV H) xs rs
def StV (H : Hp) (v : V) : Option Run → Prop
  | none => v = .non
  | some r => RunV H v r
theorem RunV.same {H H' : Hp} {v : V} {r : Run} (s : Same H H') (h : RunV H v r) : RunV H' v r := by
  obtain ⟨t, e, h⟩ := h
  exact ⟨t, e, s _ _ h⟩
theorem Paired.len {α β : Type} {F : α → β → Prop} : ∀ {l₁ : List α} {l₂ : List β}, Paired F l₁ l₂ → l₁.length = l₂.length
  | _, _, .nil => rfl
  | _, _, .cons _ t => congrArg Nat.succ (Paired.len t)
theorem Paired.at {α β : Type} {F : α → β → Prop} : ∀ {l₁ : List α} {l₂ : List β} {i : Nat} {x : α}, Paired F l₁ l₂ → l₁[i]? = some x → ∃ y, l₂[i]? = some y ∧ F x y
  | _, _, _, _, .nil, h => by simp at h
  | _, _, 0, _, .cons h _, e => by
    simp only [List.getElem?_cons_zero, Option.some.injEq] at e
    subst e
    exact ⟨_, by simp, h⟩
  | _, _, i + 1, _, .cons _ t, e => by
    simp only [List.getElem?_cons_succ] at e ⊢
    exact Paired.at t e
theorem Paired.at' {α β : Type} {F : α → β → Prop} : ∀ {l₁ : List α} {l₂ : List β} {i : Nat} {y : β}, Paired F l₁ l₂ → l₂[i]? = some y → ∃ x, l₁[i]? = some x ∧ F x y
  | _, _, _, _, .nil, h => by simp at h
  | _, _, 0, _, .cons h _, e => by
    simp only [List.getElem?_cons_zero, Option.some.injEq] at e
    subst e
    exact ⟨_, by simp, h⟩
  | _, _, i + 1, _, .cons _ t, e => by
    simp only [List.getElem?_cons_succ] at e ⊢
    exact Paired.at' t e
theorem Paired.imp {α β : Type} {F G : α → β → Prop} (f : ∀ a b, F a b → G a b) : ∀ {l₁ : List α} {l₂ : List β}, Paired F l₁ l₂ → Paired G l₁ l₂
  | _, _, .nil => .nil
  | _, _, .cons h t => .cons (f _ _ h) (Paired.imp f t)
theorem Paired.app {α β : Type} {F : α → β → Prop} : ∀ {l₁ m₁ : List α} {l₂ m₂ : List β}, Paired F l₁ l₂ → Paired F m₁ m₂ → Paired F (l₁ ++ m₁) (l₂ ++ m₂)
  | _, _, _, _, .nil, h => h
  | _, _, _, _, .cons h t, k => .cons h (Paired.app t k)
theorem Paired.dropp {α β : Type} {F : α → β → Prop} : ∀ {l₁ : List α} {l₂ : List β} (n : Nat), Paired F l₁ l₂ → Paired F (l₁.drop n) (l₂.drop n)
  | _, _, 0, h => h
  | _, _, n + 1, .nil => .nil
  | _, _, n + 1, .cons _ t => by
    simp only [List.drop_succ_cons]
    exact Paired.dropp n t
theorem Paired.takep {α β : Type} {F : α → β → Prop} : ∀ {l₁ : List α} {l₂ : List β} (n : Nat), Paired F l₁ l₂ → Paired F (l₁.take n) (l₂.take n)
  | _, _, 0, h => by simp only [List.take_zero]; exact .nil
  | _, _, n + 1, .nil => .nil
  | _, _, n + 1, .cons h t => by
    simp only [List.take_succ_cons]
    exact .cons h (Paired.takep n t)
theorem Runs.same {H H' : Hp} {a : Addr} {rs : List Run} (s : Same H H') (h : Runs H a rs) : Runs H' a rs := by
  obtain ⟨xs, e, p⟩ := h
  exact ⟨xs, s _ _ e, Paired.imp (fun _ _ => RunV.same s) p⟩
theorem StV.same {H H' : Hp} {v : V} {st : Option Run} (s : Same H H') (h : StV H v st) : StV H' v st := by
  cases st with
  | none => exact h
  | some r => exact RunV.same s h
/-- the spring: a list of three ints -/
def Spr (H : Hp) (sp : Addr) : Prop := ∃ d s c : Int, H sp = some (.lst [.int d, .int s, .int c]) ∧ 0 ≤ d ∧ d.natAbs < 2 ^ 20000 ∧ 0 ≤ s ∧ s < 2305843009213693951
theorem RunV.but {H H' : Hp} {sp : Addr} {v : V} {r : Run} (z : Spr H sp) (s : But sp H H') (h : RunV H v r) : RunV H' v r := by
  obtain ⟨t, e, h⟩ := h
  obtain ⟨_, _, _, hs, _⟩ := z
  exact ⟨t, e, s _ _ (ne_of h hs (by intro q; cases q)) h⟩
theorem Runs.ne {H : Hp} {sp a : Addr} {rs : List Run} (z : Spr H sp) (h : Runs H a rs) : a ≠ sp := by
  obtain ⟨xs, e, p⟩ := h
  obtain ⟨d, s, c, hs, _⟩ := z
  refine ne_of e hs fun q => ?_
  have q := HO.lst.inj q
  subst q
  cases p with
  | cons h _ =>
    obtain ⟨t, e, _⟩ := h
    cases e
theorem Runs.but {H H' : Hp} {sp a : Addr} {rs : List Run} (z : Spr H sp) (s : But sp H H') (h : Runs H a rs) : Runs H' a rs := by
  have n := Runs.ne z h
  obtain ⟨xs, e, p⟩ := h
  exact ⟨xs, s _ _ n e, Paired.imp (fun _ _ => RunV.but z s) p⟩
theorem StV.but {H H' : Hp} {sp : Addr} {v : V} {st : Option Run} (z : Spr H sp) (s : But sp H H') (h : StV H v st) : StV H' v st := by
  cases st with
  | none => exact h
  | some r => exact RunV.but z s h
theorem Spr.same {H H' : Hp} {sp : Addr} (z : Spr H sp) (s : Same H H') : Spr H' sp := by
  obtain ⟨d, e, c, hs, r⟩ := z
  exact ⟨d, e, c, s _ _ hs, r⟩
def KindOk (s : Str) : Prop := 1 ≤ s.length ∧ s.length ≤ 8 ∧ ∀ c ∈ s.cps.toList, 97 ≤ c ∧ c ≤ 122
def RunOk (r : Run) : Prop := KindOk r.1 ∧ 1 ≤ r.2 ∧ r.2 ≤ 1000000000000000000000000000000
def Alt (rs : List Run) : Prop := ∀ (i : Nat) (x y : Run), rs[i]? = some x → rs[i + 1]? = some y → x.1 ≠ y.1
def SeqOk (rs : List Run) : Prop := rs.length ≤ 400 ∧ (∀ r ∈ rs, RunOk r) ∧ Alt rs
end UP

set_option Elab.async false
set_option linter.all false
set_option maxRecDepth 100000
set_option maxHeartbeats 4000000
namespace UP
open PySem PySem.Spec PyProof.Rows L2
/-! ### repr of plain data, where no other repr is under way -/
def rRepr (K : PySem.W.Frag) : List V → Hp → VK → Prop := fun xs H Q => ∃ (a : Addr) (d : PyData), xs = [.ref a] ∧ Dp K H (.ref a) d ∧ d.showable = true ∧ SeqAt.shaped d = true ∧ d.shown.length ≤ sizeLine ∧ Q (.str d.shown) H
theorem call_reprD {X : Cx} (hg : X.A.guards = some []) (hu : X.A.units + 70 < cLine) : CallR X (.builtin "repr") (rRepr X.K) := by
  intro pins s σ H xs us Q I r h
  obtain ⟨a, d, rfl, dp, sh, sp, sz, q⟩ := h
  obtain ⟨u, rfl, ru⟩ := vals1 r
  cases (show u = Value.ref a from ru)
  obtain ⟨as, rd⟩ := Dp.reads I d (.ref a) (.ref a) dp rfl
  have dd := SeqAt.depth_of_shaped sp
  refine repr_of_reads' rd sh (PyData.noDict_hsm (PyData.hasDict_of_canLay d (SeqAt.canLay_of_shaped sp))) hg (by omega) (fun _ _ e => e) (fun h' u tk hk => ?_) sz
  exact ⟨.str d.shown, H, I.kept (t' := tk) hk, ⟨u, rfl⟩, q⟩
/-! ### the law's own call, around it nothing -/
structure FnC (P : Program) (w : World) (K : PySem.W.Frag) (mg : Str → Option Value) (base : Heap) (f : Addr) (fd : FuncData) (ps : List Str) (sp : Sp) : Prop where
  go : ∀ (out : List Env) (s : Shared) (H : Hp) (args : Args) (us : List Value) (vs : List V) (Q : VK) (E : XK), Env0 P w K mg base callerA out s H → BindsTo s fd args (ps.zip us) → Vals vs us → sp vs H Q E →
    codeAny (model P w) callerA (.call (.ref f) args) (CR CX0 out P w H s Q E) s
theorem callerA_room : Room 8 callerA := ⟨rfl, by decide, by decide⟩
section
variable {P : Program} {w : World} {K : PySem.W.Frag} {mg : Str → Option Value} {base : Heap}
theorem fnC_of {x : Str} {st : Stmt} {f : Addr} {fd : FuncData} {ps N : List Str} {sp : Sp} (F : Fun K x x st f fd) (S : FnScope N ps (defScope st)) (len : ∀ vs H Q E, sp vs H Q E → vs.length = ps.length)
    (body : ∀ (cdv : Value) (out : List Env) (s : Shared) (H : Hp) (vs : List V) (Q : VK) (E : XK), Room 7 (callerA.deeper (envOfC x (defScope st) s.heap.objs.size f cdv)) → sp vs H Q E →
      ∃ t, PSs (cxOf CX0 P w K mg base N x (defScope st) f cdv callerA out s H E).nox (defBody st) t ∧ t { nx := fun _ H' => Q .non H', rt := Q } (start N vs) H) : FnC P w K mg base f fd ps sp := by
  obtain ⟨oc, od, kV, doc, pm, an, cdv, ct, osl, rfl, lk, hcd⟩ := F.ex
  refine ⟨fun out s H args us vs Q E e0 hb rv hsp => ?_⟩
  have inS : K.In s.heap := e0.mod.kin.keeps fun b o z => (e0.bs b o z).1
  have noL : s.heap.NoLimit := e0.mod.nolimit.keeps fun b o z => (e0.bs b o z).1
  have kinds : ∀ y ∈ ps.zip us, (defScope st).names.lookup y.1 = some .local ∨ ((defScope st).names.lookup y.1 = some .cell ∧ ((cellsFrom (s.heap.objs.size + 1) (defScope st).names []).lookup y.1).isSome = true) := by
    intro y hy
    rcases S.par y.1 (List.of_mem_zip (a := y.1) (b := y.2) hy).1 with z | z
    · exact Or.inl z
    · exact Or.inr ⟨z, PySem.W.cellsFrom_some _ _ _ (Or.inl z)⟩
  refine codeAny_call_function callerA_room.depth (inS _ _ lk) rfl S.co S.gen rfl (PySem.W.codeRec_of inS hcd) (hb _ _ _ _ ?_)
  refine wpAny_newFunctionEnv_cells S.kind kinds fun env he s1 inC => ?_
  subst he
  refine ⟨noL.keeps inC.toInCall.keep, codeAny_func ?_⟩
  obtain ⟨t, ht0, hq⟩ := body cdv out s H vs Q E (callerA_room.deeper _) hsp
  have ht := PSs.nox ht0
  have I0 : Inv (cxOf CX0 P w K mg base N x (defScope st) f cdv callerA out s H E) [] (start N vs) H s1 := inv_start S rfl e0 (len _ _ _ _ hsp) rv inC
  refine wpAny_mono (ht.run [] s1 (start N vs) H _ I0 hq) (fun fl s2 h2 => ?_) fun _ _ z => z
  cases fl with
  | next =>
    obtain ⟨σ2, H2, J, q2⟩ := h2
    exact ⟨V.non, H2, J.os, J.bare, J.base, J.hok, rfl, q2⟩
  | ret u =>
    obtain ⟨v, σ2, H2, J, rv2, q2⟩ := h2
    exact ⟨v, H2, J.os, J.bare, J.base, J.hok, rv2, q2⟩
  | brk =>
    obtain ⟨_, _, _, z⟩ := h2
    exact z.elim
  | cont =>
    obtain ⟨_, _, _, z⟩ := h2
    exact z.elim
end
/-- the heap that holds the script alone, locked -/
def oneH (a : Addr) (o : Obj) (xs : List V) : Hp := fun b => if b = a then some (.frz o (.lst xs)) else none
theorem run_law {P : Program} {w : World} {K : PySem.W.Frag} {mg mb : Str → Option Value} {fa a : Addr} {fd : FuncData} {x : Str} {sp : Sp} {s : Shared} {vs : List Value} {ns : List Int}
    (kx : K.In s.heap) (gns : s.heap.Ns mainGlobals mg) (bns : s.heap.Ns builtinsNs mb) (bb : ∀ y : Str, y ≠ "__name__" → mb y = bootBuiltins y) (nl : s.heap.NoLimit) (gens : s.gens = #[])
    (ob : s.heap.get? a = some { cls := .type "list", data := .seq vs.toArray }) (hin : IntsAre vs ns) (len : ns.length ≤ sizeLine) (F : ∀ base : Heap, K.In base → base.Ns mainGlobals mg → FnC P w K mg base fa fd [x] sp)
    (bind : ∀ (s : Shared) (u : Value), BindsTo s fd ⟨[u], []⟩ [(x, u)]) (hsp : ∀ H : Hp, SqL K H a (ns.map V.int) → sp [.ref a] H (fun v _ => v = .bl true) fun _ _ _ => False) :
    codeAny (model P w) callerA (.call (.ref fa) ⟨[.ref a], []⟩) (fun r s' => r = .ok (.ret (.bool true)) ∧ OldK s.heap s'.heap ∧ s'.os = s.os ∧ AllBare s'.gens) s := by
  have rel := vals_ints hin
  have step : ∀ H : Hp, (H = (fun _ => none) ∨ (H = oneH a { cls := .type "list", data := .seq vs.toArray } (ns.map V.int) ∧ K.lookup a = none)) → SqL K H a (ns.map V.int) → HOk P w H s.heap →
      codeAny (model P w) callerA (.call (.ref fa) ⟨[.ref a], []⟩) (fun r s' => r = .ok (.ret (.bool true)) ∧ OldK s.heap s'.heap ∧ s'.os = s.os ∧ AllBare s'.gens) s := by
    intro H hH hS hok
    have only : ∀ b u, H b = some u → b = a ∧ u = .frz { cls := .type "list", data := .seq vs.toArray } (.lst (ns.map V.int)) ∧ K.lookup a = none := by
      intro b u e
      rcases hH with z | ⟨z, z2⟩
      · rw [z] at e
        cases e
      · rw [z] at e
        by_cases hb : b = a
        · have e := (if_pos hb).symm.trans e
          cases e
          exact ⟨hb, rfl, z2⟩
        · have e := (if_neg hb).symm.trans e
          cases e
    have free : ∀ {b : Addr} {o : Obj}, s.heap.get? b = some o → (b = a → False) → (hidT s.heap H).get? b = some o := by
      intro b o e n
      refine hidT_get e ?_
      cases q : H b with
      | none => rfl
      | some u => exact (n (only b u q).1).elim
    have nss : ∀ {b : Addr} {m : Str → Option Value}, s.heap.Ns b m → (hidT s.heap H).Ns b m := by
      intro b m ⟨o, es, ep, e, d, r⟩
      refine ⟨o, es, ep, free e fun z => ?_, d, r⟩
      subst z
      rw [ob] at e
      cases e
      cases d
    have kb : K.In (hidT s.heap H) := by
      intro b o e
      refine hidT_get (kx b o e) ?_
      cases q : H b with
      | none => rfl
      | some u =>
        obtain ⟨z1, _, z2⟩ := only b u q
        rw [z1, z2] at e
        cases e
    have md : Mod K mg (hidT s.heap H) := ⟨kb, nss gns, ⟨mb, nss bns, bb⟩, by obtain ⟨mc, h1, h2⟩ := nl; exact ⟨mc, nss h1, h2⟩⟩
    have env : Env0 P w K mg (hidT s.heap H) callerA [] s H := ⟨rfl, md, fun b o e => of_hidT e, Nat.le_of_eq (hidT_size _ _), trivial, (fun b hb => by cases hb), hok, .of_eq gens⟩
    refine codeAny_mono ((F _ kb (nss gns)).go [] s H ⟨[.ref a], []⟩ [.ref a] [.ref a] _ _ env (bind s (.ref a)) (.cons rfl .nil) (hsp H hS)) fun r s' h => ?_
    cases r with
    | error e => exact h.elim
    | ok fl =>
      cases fl with
      | next => exact h.elim
      | brk => exact h.elim
      | cont => exact h.elim
      | ret u =>
        obtain ⟨v, H', o1, o2, un, hok', rv, q⟩ := h
        have q : v = .bl true := q
        subst q
        cases (show u = Value.bool true from rv)
        refine ⟨rfl, OldK.of_keep fun b o e => ?_, o1, o2⟩
        cases q : H b with
        | none => exact un.keep b o e q (fun z => by cases z) (fun z => by cases z)
        | some u =>
          obtain ⟨_, z, _⟩ := only b u q
          subst z
          obtain ⟨e1, _⟩ := hok b _ q
          obtain ⟨e2, _⟩ := hok' b _ (un.frzs b _ _ q)
          rw [e] at e1
          cases e1
          exact e2
  cases hk : K.lookup a with
  | some o =>
    have e := kx a o hk
    rw [ob] at e
    cases e
    refine step (fun _ => none) (.inl rfl) (.inr ⟨_, vs.toArray, _, hk, rfl, rfl, rfl, ?_, by simpa using rel⟩) fun b u z => by cases z
    rw [List.size_toArray, hin.length]
    exact len
  | none =>
    have at_a : oneH a { cls := .type "list", data := .seq vs.toArray } (ns.map V.int) a = some (.frz { cls := .type "list", data := .seq vs.toArray } (.lst (ns.map V.int))) := if_pos rfl
    refine step _ (.inr ⟨rfl, hk⟩) (.inl (.inr ⟨_, at_a⟩)) fun b u z => ?_
    by_cases hb : b = a
    · subst hb
      rw [at_a] at z
      cases z
      exact ⟨ob, by rw [List.length_map]; exact len, vs, _, rel, ob⟩
    · have z := (if_neg hb).symm.trans z
      cases z
theorem walkC {l : PySem.W.OpenLaw} {n : Nat} {q : Program} {loose : List Str} {XP : (Str → Option Value) → Heap → Prop} {YP : World → Heap → Prop} {d : DefRec} {K : Params → PySem.W.Frag} {sp : World → Sp} {x : Str}
    (hn : l.most = some n) (n2 : n ≤ sizeLine) (df : d.params.defaults = []) (hY : ∀ (w : World) (h : Heap), YP w h → (K w.params).In h)
    (F : ∀ (w : World) (mg : Str → Option Value) (fa : Addr) (h : Heap), (K w.params).In h → h.Ns mainGlobals mg → mg d.name = some (.ref fa) →
      ∃ fd : FuncData, (∀ (s : Shared) (u : Value), BindsTo s fd ⟨[u], []⟩ [(x, u)]) ∧ ∀ base : Heap, (K w.params).In base → base.Ns mainGlobals mg → FnC l.prog w (K w.params) mg base fa fd [x] (sp w))
    (hsp : ∀ (w : World) (H : Hp) (a : Addr) (ns : List Int), ns.length ≤ n → SqL (K w.params) H a (ns.map V.int) → sp w [.ref a] H (fun v _ => v = .bl true) fun _ _ _ => False) :
    PySem.W.WalkO q loose XP YP l.row.toRowW d [] (fun f vs => PySem.call f vs) := by
  refine Att.attach_call hn df fun w s₀ s mg mb fa o pm cd doc a vs ns G Y ho hd hcd hmg hobj hints hlen hg => ?_
  have kx := hY w _ Y
  obtain ⟨fd, hb, hF⟩ := F w mg fa _ kx G.T.g hmg
  exact run_law kx G.T.g G.T.b G.T.builtins G.T.nolimit hg hobj hints (Nat.le_trans hlen n2) hF hb fun H hS => hsp w H a ns hlen hS
end UP

set_option Elab.async false
set_option linter.all false
set_option maxRecDepth 100000
set_option maxHeartbeats 4000000
namespace UP
open PySem PySem.Spec PyProof.Rows L2
/-! ### lists or tuples -/
def Sq2 (H : Hp) (a : Addr) (xs : List V) : Prop := H a = some (.lst xs) ∨ H a = some (.tup xs)
theorem Sq2.same {H H' : Hp} {a : Addr} {xs : List V} (s : Same H H') (h : Sq2 H a xs) : Sq2 H' a xs := h.elim (fun z => .inl (s _ _ z)) (fun z => .inr (s _ _ z))
/-- a walk over the items xs, from the heap H on -/
structure Wk (J : It) (H : Hp) (xs : List V) : Prop where
  go : ∀ i H', Same H H' → i < xs.length → J.go i H'
  stop : ∀ H', Same H H' → J.stop xs.length H'
  yld : ∀ i x H' H'', Same H H' → J.yld i H' x H'' → H'' = H' ∧ xs[i]? = some x
theorem wk_list {K : PySem.W.Frag} {H : Hp} {a : Addr} {xs : List V} (h : H a = some (.lst xs)) : Wk (Itl K a) H xs :=
  ⟨fun i H' s hi => ⟨xs, xs[i], .of (s _ _ h), List.getElem?_eq_getElem hi⟩, fun H' s => ⟨xs, .of (s _ _ h), Nat.le_refl _⟩, fun i x H' H'' s y => ⟨y.1, y.2 xs (.of (s _ _ h))⟩⟩
theorem wk_tup {K : PySem.W.Frag} {H : Hp} {a : Addr} {xs : List V} (h : H a = some (.tup xs)) : Wk (Itt K a) H xs :=
  ⟨fun i H' s hi => ⟨xs, xs[i], .of (s _ _ h), List.getElem?_eq_getElem hi⟩, fun H' s => ⟨xs, .of (s _ _ h), Nat.le_refl _⟩, fun i x H' H'' s y => ⟨y.1, y.2 xs (.of (s _ _ h))⟩⟩
def iSeqV (i : Nat) : TI := fun σ H R => ∃ a xs, σ[i]? = some (some (.ref a)) ∧ Sq2 H a xs ∧ ∀ J, Wk J H xs → R J H
section
variable {X : Cx}
theorem pi_seqV (i : Nat) {x : Str} {pos : Pos} {tg : Expr} (hN : X.N[i]? = some x := by rfl) (hv : Vis X.env.scope x := by first | exact Or.inl rfl | exact Or.inr (Or.inl rfl) | exact Or.inr (Or.inr rfl)) (hd : (x == ("__debug__" : Str)) = false := by decide)
    (hc : (x == ("__classdict__" : Str)) = false := by decide) : PI X tg (.Name x pos) (iSeqV i) := by
  refine ⟨fun pins s σ H R I hw => ?_⟩
  obtain ⟨a, xs, e, h, k⟩ := hw
  rcases h with h | h
  · exact (pi_list (pe_var hN hv hd hc)).run pins s σ H R I ⟨_, e, a, rfl, ⟨xs, .of h⟩, k _ (wk_list h)⟩
  · exact (pi_tup (pe_var hN hv hd hc)).run pins s σ H R I ⟨_, e, a, rfl, ⟨xs, .of h⟩, k _ (wk_tup h)⟩
def gAny (n : Nat) (t : TGs) : TG := fun v σ H Q => ∃ a xs, v = .ref a ∧ Sq2 H a xs ∧ xs.length = n ∧ t xs σ H Q
theorem pg_any {es : List Expr} {k n : Nat} {t : TGs} {pos : Pos} (hc : X.calm = true) (h : PGs X es t) (hn : (assignEach es X.env).length = n := by rfl) (hst : (assignEach es X.env).findIdx? (fun z => z.1) = none := by rfl) : PG X (.Tuple es k pos) (gAny n t) := by
  refine ⟨fun pins s σ H v u Q I r hw => ?_⟩
  obtain ⟨a, xs, e, hx, hl, hw⟩ := hw
  rcases hx with z | z
  · exact (pg_unl hc h hn hst).run pins s σ H v u Q I r ⟨a, xs, e, .of z, hl, hw⟩
  · exact (pg_tup hc h hn hst).run pins s σ H v u Q I r ⟨a, xs, e, .of z, hl, hw⟩
/-- zip(x, x[1:]) -/
structure WkZ (J : It) (H : Hp) (xs : List V) : Prop where
  go : ∀ i H', Same H H' → i + 1 < xs.length → J.go i H'
  stop : ∀ H', Same H H' → J.stop (xs.length - 1) H'
  yld : ∀ i x H' H'', Same H H' → J.yld i H' x H'' → ∃ T x1 x2, x = .ref T ∧ H' T = none ∧ H'' = upd H' T (.tup [x1, x2]) ∧ xs[i]? = some x1 ∧ (i + 1 < xs.length → xs[i + 1]? = some x2)
def iZip1 (i : Nat) : TI := fun σ H R => ∃ a xs, σ[i]? = some (some (.ref a)) ∧ Sq2 H a xs ∧ ∀ J H', Same H H' → WkZ J H' xs → R J H'
theorem cutt_one (xs : List V) : cutV xs (some 1) none = xs.drop 1 := by
  have e : HT.sIx xs.length 0 (some 1) = min 1 xs.length := HT.sIx_nat xs.length 0 1
  unfold cutV
  rw [e, HT.sIx_none]
  cases xs with
  | nil => rfl
  | cons x r =>
    have e1 : min 1 (x :: r).length = 1 := by simp only [List.length_cons]; omega
    rw [e1]
    simp
theorem pi_zip1 {i : Nat} {tg it : Expr} {tl th : TO} (h : PI X tg it (RZ.iZipA X.K (tCons (tVar i) (tCons (tSl (fun x lo hi H Q => rSlL X.K x lo hi H Q ∨ rSlA X.K x lo hi H Q) (tVar i) tl th) tNil))))
    (h1 : ∀ (σ : L2.St) (H : Hp) (Q : Option Int → Hp → Prop), Q (some 1) H → tl σ H Q) (h2 : ∀ (σ : L2.St) (H : Hp) (Q : Option Int → Hp → Prop), Q none H → th σ H Q) : PI X tg it (iZip1 i) := by
  refine ⟨fun pins s σ H R I hw => h.run pins s σ H R I ?_⟩
  obtain ⟨a, xs, e, hx, k⟩ := hw
  refine ⟨_, e, _, e, h1 σ H _ (h2 σ H _ ?_)⟩
  have gn : ∀ j : Nat, (xs.drop 1)[j]? = xs[j + 1]? := fun j => by rw [List.getElem?_drop, Nat.add_comm 1 j]
  rcases hx with hx | hx
  · refine .inl ⟨a, xs, rfl, .of hx, fun c nc => ?_⟩
    have sc : Same H (upd H c (.lst (cutV xs (some 1) none))) := fun b o z => by rw [upd_ne (ne_of_none z nc)]; exact z
    have hc : (upd H c (.lst (cutV xs (some 1) none))) c = some (.lst (xs.drop 1)) := by rw [upd_same, cutt_one]
    refine ⟨a, c, xs, xs.drop 1, rfl, .inl ⟨.of (sc _ _ hx), .of hc, k _ _ sc ⟨fun j H' sj hj => ?_, fun H' sj => ?_, fun j x H' H'' sj y => ?_⟩⟩⟩
    · exact ⟨xs, xs.drop 1, xs[j], xs[j + 1], .of (sj _ _ (sc _ _ hx)), .of (sj _ _ hc), List.getElem?_eq_getElem (by omega), by rw [gn]; exact List.getElem?_eq_getElem hj⟩
    · exact ⟨xs, xs.drop 1, .of (sj _ _ (sc _ _ hx)), .of (sj _ _ hc), .inr (by rw [List.length_drop]; exact Nat.le_refl _)⟩
    · obtain ⟨T, x1, x2, e1, e2, e3, f1, f2⟩ := y
      exact ⟨T, x1, x2, e1, e2, e3, f1 xs (.of (sj _ _ (sc _ _ hx))), fun _ => by rw [← gn]; exact f2 _ (.of (sj _ _ hc))⟩
  · refine .inr ⟨a, xs, rfl, .of hx, fun z => ?_, fun z c nc => ?_⟩
    · have lz : xs.length = 0 := by
        have z1 := z.1
        rw [show HT.sIx xs.length 0 (some 1) = min 1 xs.length from HT.sIx_nat xs.length 0 1] at z1
        omega
      refine ⟨a, a, xs, xs, rfl, .inr ⟨.of hx, .of hx, k _ _ (Same.refl _) ⟨fun j H' sj hj => by omega, fun H' sj => ⟨xs, xs, .of (sj _ _ hx), .of (sj _ _ hx), .inl (by omega)⟩, fun j x H' H'' sj y => ?_⟩⟩⟩
      obtain ⟨T, x1, x2, e1, e2, e3, f1, f2⟩ := y
      exact ⟨T, x1, x2, e1, e2, e3, f1 xs (.of (sj _ _ hx)), fun hj => by omega⟩
    · have sc : Same H (upd H c (.tup (cutV xs (some 1) none))) := fun b o z => by rw [upd_ne (ne_of_none z nc)]; exact z
      have hc : (upd H c (.tup (cutV xs (some 1) none))) c = some (.tup (xs.drop 1)) := by rw [upd_same, cutt_one]
      refine ⟨a, c, xs, xs.drop 1, rfl, .inr ⟨.of (sc _ _ hx), .of hc, k _ _ sc ⟨fun j H' sj hj => ?_, fun H' sj => ?_, fun j x H' H'' sj y => ?_⟩⟩⟩
      · exact ⟨xs, xs.drop 1, xs[j], xs[j + 1], .of (sj _ _ (sc _ _ hx)), .of (sj _ _ hc), List.getElem?_eq_getElem (by omega), by rw [gn]; exact List.getElem?_eq_getElem hj⟩
      · exact ⟨xs, xs.drop 1, .of (sj _ _ (sc _ _ hx)), .of (sj _ _ hc), .inr (by rw [List.length_drop]; exact Nat.le_refl _)⟩
      · obtain ⟨T, x1, x2, e1, e2, e3, f1, f2⟩ := y
        exact ⟨T, x1, x2, e1, e2, e3, f1 xs (.of (sj _ _ (sc _ _ hx))), fun _ => by rw [← gn]; exact f2 _ (.of (sj _ _ hc))⟩
end
/-! ### runs and states, dressed -/
def RunG (H : Hp) (v : V) (r : Run) : Prop := ∃ t, v = .ref t ∧ Sq2 H t [.str r.1, .int r.2]
def RunsG (H : Hp) (v : V) (rs : List Run) : Prop := ∃ a xs, v = .ref a ∧ Sq2 H a xs ∧ Paired (RunG H) xs rs
def StG (H : Hp) (v : V) : Option Run → Prop
  | none => v = .non
  | some r => RunG H v r
theorem RunG.same {H H' : Hp} {v : V} {r : Run} (s : Same H H') (h : RunG H v r) : RunG H' v r := by
  obtain ⟨t, e, h⟩ := h
  exact ⟨t, e, h.same s⟩
theorem RunsG.same {H H' : Hp} {v : V} {rs : List Run} (s : Same H H') (h : RunsG H v rs) : RunsG H' v rs := by
  obtain ⟨a, xs, e, hx, p⟩ := h
  exact ⟨a, xs, e, hx.same s, Paired.imp (fun _ _ => RunG.same s) p⟩
theorem StG.same {H H' : Hp} {v : V} {st : Option Run} (s : Same H H') (h : StG H v st) : StG H' v st := by
  cases st with
  | none => exact h
  | some r => exact RunG.same s h
theorem RunV.dress {H : Hp} {v : V} {r : Run} (h : RunV H v r) : RunG H v r := by
  obtain ⟨t, e, h⟩ := h
  exact ⟨t, e, .inr h⟩
theorem Runs.dress {H : Hp} {a : Addr} {rs : List Run} (h : Runs H a rs) : RunsG H (.ref a) rs := by
  obtain ⟨xs, hx, p⟩ := h
  exact ⟨a, xs, rfl, .inl hx, Paired.imp (fun _ _ => RunV.dress) p⟩
theorem StV.dress {H : Hp} {v : V} {st : Option Run} (h : StV H v st) : StG H v st := by
  cases st with
  | none => exact h
  | some r => exact RunV.dress h
theorem Sq2.but {H H' : Hp} {sp a : Addr} {xs : List V} (z : Spr H sp) (s : But sp H H') (h : Sq2 H a xs) (n : ∀ d e f, xs ≠ [.int d, .int e, .int f]) : Sq2 H' a xs := by
  obtain ⟨d, e, f, hs, _⟩ := z
  rcases h with h | h
  · exact .inl (s _ _ (ne_of h hs fun q => n d e f (HO.lst.inj q)) h)
  · exact .inr (s _ _ (ne_of h hs fun q => by cases q) h)
theorem RunG.but {H H' : Hp} {sp : Addr} {v : V} {r : Run} (z : Spr H sp) (s : But sp H H') (h : RunG H v r) : RunG H' v r := by
  obtain ⟨t, e, h⟩ := h
  exact ⟨t, e, h.but z s fun _ _ _ q => by cases q⟩
theorem RunsG.but {H H' : Hp} {sp : Addr} {v : V} {rs : List Run} (z : Spr H sp) (s : But sp H H') (h : RunsG H v rs) : RunsG H' v rs := by
  obtain ⟨a, xs, e, hx, p⟩ := h
  refine ⟨a, xs, e, hx.but z s fun d _ _ q => ?_, Paired.imp (fun _ _ => RunG.but z s) p⟩
  subst q
  cases p with
  | cons h _ =>
    obtain ⟨_, e, _⟩ := h
    cases e
theorem StG.but {H H' : Hp} {sp : Addr} {v : V} {st : Option Run} (z : Spr H sp) (s : But sp H H') (h : StG H v st) : StG H' v st := by
  cases st with
  | none => exact h
  | some r => exact RunG.but z s h
end UP

set_option Elab.async false
set_option linter.all false
set_option maxRecDepth 100000
set_option maxHeartbeats 4000000
namespace UP
open PySem PySem.Spec PyProof.Rows L2
def topS (i : Nat) : Stmt := PySem.Challenge.pw_unlikepairs_k42_conflicts_of_records.main.body.getD i (.Pass ⟨0, 0, 0, 0⟩)
structure Tx (mg : Str → Option Value) : Prop where
  n_isinstance : mg "isinstance" = none
  n_int : mg "int" = none
  n_bool : mg "bool" = none
  n_str : mg "str" = none
  n_list : mg "list" = none
  n_tuple : mg "tuple" = none
  n_len : mg "len" = none
  n_all : mg "all" = none
  n_zip : mg "zip" = none
  n_sum : mg "sum" = none
  n_min : mg "min" = none
  n_max : mg "max" = none
  n_abs : mg "abs" = none
  n_range : mg "range" = none
  n_repr : mg "repr" = none
  n_enumerate : mg "enumerate" = none
  n_any : mg "any" = none
  n_dict : mg "dict" = none
  n_sorted : mg "sorted" = none
  n_set : mg "set" = none
  n_reversed : mg "reversed" = none
  c_MAX_LETTERS : ∃ t, mg "MAX_LETTERS" = some (.int 8 t)
  c_MAX_KINDS : ∃ t, mg "MAX_KINDS" = some (.int 12 t)
  c_MAX_ENTRIES : ∃ t, mg "MAX_ENTRIES" = some (.int 400 t)
section
variable {P : Program} {w : World} {K : PySem.W.Frag} {mg : Str → Option Value} {base : Heap}
theorem kit_lst {K : PySem.W.Frag} : PySem.W.kitAny K (.type "list") [.type "list", .type "tuple"] = some true := kitAny_cons (b := true) (kit_ty (by decide +kernel)) (fun z => nomatch z) (fun _ => rfl)
theorem kit_tup {K : PySem.W.Frag} : PySem.W.kitAny K (.type "tuple") [.type "list", .type "tuple"] = some true := kitAny_cons (b := false) (kit_ty (by decide +kernel)) (fun _ => kitAny_cons (b := true) (kit_ty (by decide +kernel)) (fun z => nomatch z) (fun _ => rfl)) (fun z => nomatch z)
/-! is_listed: slots 0:value 1:most -/
abbrev s_is_listed : Stmt := topS 9
theorem sc_is_listed : FnScope ["value", "most"] ["value", "most"] (defScope s_is_listed) := ⟨rfl, rfl, rfl, by decide +kernel, rfl, by decide +kernel, by decide +kernel⟩
def sp_is_listed : Sp := fun vs H Q _ => ∃ (a : Addr) (xs : List V) (m : Int), vs = [.ref a, .int m] ∧ Sq2 H a xs ∧ ∀ H', Same H H' → Q (.bl (decide ((xs.length : Int) ≤ m))) H'
theorem ok_is_listed (D : Df K mg "is_listed" s_is_listed) (T : Tx mg) : Has P w K mg base 1 "is_listed" ["value", "most"] sp_is_listed := by
  refine has_of D sc_is_listed (fun _ _ _ _ _ _ us hl => match us, hl with | [_, _], _ => rfl) (fun vs H Q E h => ?_) (fun f cdv A outer s H vs Q E hr h => ?_)
  · obtain ⟨a, xs, m, rfl, _⟩ := h
    rfl
  · obtain ⟨a, xs, m, rfl, hx, q⟩ := h
    refine ⟨_, (pss_one (ps_ret (pe_and (pe_callB call_isiT (by rfl) T.n_isinstance (by decide +kernel) (pa_cons (pv 0) (pa_cons (pe_tup (pa_cons (pe_bltn (v := .ty "list") (by rfl) T.n_list (by decide +kernel) rfl) (pa_cons (pe_bltn (v := .ty "tuple") (by rfl) T.n_tuple (by decide +kernel) rfl) pa_nil))) pa_nil))) (pe_one (pe_cmpR op_le (pe_callB call_len_seq (by rfl) T.n_len (by decide +kernel) (pa_cons (pv 0) pa_nil)) (pv 1) (nomark _)))))), ?_⟩
    refine ⟨_, rfl, (by show 2 ≤ sizeLine; decide), fun t nt => ?_⟩
    rcases hx with hx | hx
    · refine ⟨_, t, _, _, _, true, rfl, upd_same, .cons (.ty "list") (.cons (.ty "tuple") .nil), .base (.lst (same_upd nt _ _ hx)), kit_lst, true, rfl, iteT ?_⟩
      exact ⟨_, rfl, _, _, rfl, .inl (.of (same_upd nt _ _ hx)), _, rfl, _, _, rfl, rfl, q _ (same_upd nt)⟩
    · refine ⟨_, t, _, _, _, true, rfl, upd_same, .cons (.ty "list") (.cons (.ty "tuple") .nil), .base (.tup (same_upd nt _ _ hx)), kit_tup, true, rfl, iteT ?_⟩
      exact ⟨_, rfl, _, _, rfl, .inr (.of (same_upd nt _ _ hx)), _, rfl, _, _, rfl, rfl, q _ (same_upd nt)⟩
/-! is_couple: slots 0:value -/
abbrev s_is_couple : Stmt := topS 10
theorem sc_is_couple : FnScope ["value"] ["value"] (defScope s_is_couple) := ⟨rfl, rfl, rfl, by decide +kernel, rfl, by decide +kernel, by decide +kernel⟩
def sp_is_couple : Sp := fun vs H Q _ => ∃ (a : Addr) (xs : List V), vs = [.ref a] ∧ Sq2 H a xs ∧ xs.length = 2 ∧ ∀ H', Same H H' → Q (.bl true) H'
theorem ok_is_couple (D : Df K mg "is_couple" s_is_couple) (T : Tx mg) : Has P w K mg base 1 "is_couple" ["value"] sp_is_couple := by
  refine has_of D sc_is_couple (fun _ _ _ _ _ _ us hl => match us, hl with | [_], _ => rfl) (fun vs H Q E h => ?_) (fun f cdv A outer s H vs Q E hr h => ?_)
  · obtain ⟨a, xs, rfl, _⟩ := h
    rfl
  · obtain ⟨a, xs, rfl, hx, hl, q⟩ := h
    refine ⟨_, (pss_one (ps_ret (pe_and (pe_callB call_isiT (by rfl) T.n_isinstance (by decide +kernel) (pa_cons (pv 0) (pa_cons (pe_tup (pa_cons (pe_bltn (v := .ty "list") (by rfl) T.n_list (by decide +kernel) rfl) (pa_cons (pe_bltn (v := .ty "tuple") (by rfl) T.n_tuple (by decide +kernel) rfl) pa_nil))) pa_nil))) (pe_one (pe_cmpR op_eq (pe_callB call_len_seq (by rfl) T.n_len (by decide +kernel) (pa_cons (pv 0) pa_nil)) pe_int (nomark _)))))), ?_⟩
    refine ⟨_, rfl, (by show 2 ≤ sizeLine; decide), fun t nt => ?_⟩
    rcases hx with hx | hx
    · refine ⟨_, t, _, _, _, true, rfl, upd_same, .cons (.ty "list") (.cons (.ty "tuple") .nil), .base (.lst (same_upd nt _ _ hx)), kit_lst, true, rfl, iteT ⟨_, rfl, _, _, rfl, .inl (.of (same_upd nt _ _ hx)), rfl, ?_⟩⟩
      rw [hl]
      exact q _ (same_upd nt)
    · refine ⟨_, t, _, _, _, true, rfl, upd_same, .cons (.ty "list") (.cons (.ty "tuple") .nil), .base (.tup (same_upd nt _ _ hx)), kit_tup, true, rfl, iteT ⟨_, rfl, _, _, rfl, .inr (.of (same_upd nt _ _ hx)), rfl, ?_⟩⟩
      rw [hl]
      exact q _ (same_upd nt)
end
end UP

set_option Elab.async false
set_option linter.all false
set_option maxRecDepth 100000
set_option maxHeartbeats 4000000
namespace UP
open PySem PySem.Spec PyProof.Rows L2
theorem iteP {b : Bool} {A B : Prop} (h : b = true) (x : A) : if b = true then A else B := by
  rw [if_pos h]
  exact x
theorem iteN {b : Bool} {A B : Prop} (h : b = false) (x : B) : if b = true then A else B := by
  rw [if_neg (by rw [h]; decide)]
  exact x
theorem yesT {σ : L2.St} {H : Hp} {A B : Hp → Prop} (h : A H) : tYes σ H (fun b H3 => if b = true then A H3 else B H3) := by
  show (if true = true then A H else B H)
  exact iteT h
theorem lc_gen {J : It} {n : Nat} {g : TG} {tt : TT} {te : TE} {vs : List Nat} {σ : L2.St} {H1 : Hp} {D : Addr} {Qd : Hp → Prop} (Pv : Nat → Hp → Prop) (h0 : Pv 0 (upd H1 D (.lst [])))
    (hg : ∀ i H, i < n → Pv i H → J.go i H) (hst : ∀ H, Pv n H → J.stop n H)
    (hs : ∀ i x H H', i < n → Pv i H → J.yld i H x H' → g x (wipe σ vs) H' fun σ2 H2 => wipe σ2 vs = wipe σ vs ∧ tt σ2 H2 fun b H3 =>
      if b = true then te σ2 H3 fun y H4 => ∃ acc, H4 D = some (.lst acc) ∧ acc.length < sizeLine ∧ Pv (i + 1) (upd H4 D (.lst (acc ++ [y]))) else Pv (i + 1) H3) (hd : ∀ H, Pv n H → Qd H) :
    ∃ W : Nat → Nat → Hp → Prop, (∃ m, W 0 m (upd H1 D (.lst []))) ∧ ∀ i m H, W i m H →
      (J.stop i H ∧ Qd H) ∨ (J.go i H ∧ ∃ Nx : Hp → Prop, (∀ H', Nx H' → ∃ m', m' < m ∧ W (i + 1) m' H') ∧ ∀ x H', J.yld i H x H' → g x (wipe σ vs) H' fun σ2 H2 => wipe σ2 vs = wipe σ vs ∧ tt σ2 H2 fun b H3 =>
        if b = true then te σ2 H3 fun y H4 => ∃ acc, H4 D = some (.lst acc) ∧ acc.length < sizeLine ∧ Nx (upd H4 D (.lst (acc ++ [y]))) else Nx H3) := by
  refine ⟨fun i m H => m = n - i ∧ i ≤ n ∧ Pv i H, ⟨n, by simp, Nat.zero_le _, h0⟩, ?_⟩
  rintro i m H ⟨rfl, hi, p⟩
  by_cases hlt : i < n
  · exact .inr ⟨hg i H hlt p, Pv (i + 1), fun H' p' => ⟨n - (i + 1), by omega, rfl, hlt, p'⟩, fun x H' y => hs i x H H' hlt p y⟩
  · have e : i = n := by omega
    subst e
    exact .inl ⟨hst H p, hd H p⟩
section
variable {X : Cx} {K : PySem.W.Frag}
theorem ix_tupK (h : X.K = K) : IxR X (rIxT K) := h ▸ ix_tup
theorem ix_listK (h : X.K = K) : IxR X (rIxL K) := h ▸ ix_list
theorem pg_tupK {es : List Expr} {k : Nat} {t : TGs} {n : Nat} {pos : Pos} (h : X.K = K) (hc : X.calm = true) (hp : PGs X es t)
    (hn : (assignEach es X.env).length = n := by rfl) (hst : (assignEach es X.env).findIdx? (fun z => z.1) = none := by rfl) : PG X (.Tuple es k pos) (gTup K n t) := by
  subst h
  exact pg_tup hc hp hn hst
theorem call_len_seqK (h : X.K = K) : CallR X (.builtin "len") (fun xs H Q => ∃ p ys, xs = [.ref p] ∧ (SqL K H p ys ∨ SqT K H p ys) ∧ Q (.int ys.length) H) := by
  subst h
  exact call_len_seq
end
theorem ix_seqK {X : Cx} {K : PySem.W.Frag} (h : X.K = K) : IxR X (rIx K) := h ▸ ix_seq
/-! ### lists that grow -/
theorem same_grow {H H4 : Hp} {D : Addr} {o : HO} (n : H D = none) (s : Same H H4) : Same H (upd H4 D o) := fun b x e => by
  rw [upd_ne (ne_of_none e n)]
  exact s b x e
theorem RunV.grow {H : Hp} {D : Addr} {acc acc' : List V} {v : V} {r : Run} (hD : H D = some (.lst acc)) (h : RunV H v r) : RunV (upd H D (.lst acc')) v r := by
  obtain ⟨t, e, h⟩ := h
  refine ⟨t, e, ?_⟩
  rw [upd_ne (ne_of h hD (by intro q; cases q))]
  exact h
theorem prs_grow {H : Hp} {D : Addr} {acc acc' : List V} {xs : List V} {rs : List Run} (hD : H D = some (.lst acc)) (h : Paired (RunV H) xs rs) : Paired (RunV (upd H D (.lst acc'))) xs rs := Paired.imp (fun _ _ => RunV.grow hD) h
theorem prs_same {H H' : Hp} {xs : List V} {rs : List Run} (s : Same H H') (h : Paired (RunV H) xs rs) : Paired (RunV H') xs rs := Paired.imp (fun _ _ => RunV.same s) h
theorem take_snoc {α : Type} {l : List α} {i : Nat} {x : α} (h : l[i]? = some x) : l.take (i + 1) = l.take i ++ [x] := by
  rw [List.take_add_one, h]
  rfl
theorem lc_wk {J : It} {H0 H1 : Hp} {xs : List V} {g : TG} {tt : TT} {te : TE} {vs : List Nat} {σ : L2.St} {D : Addr} {Qd : Hp → Prop} (wk : Wk J H0 xs) (Pv : Nat → Hp → Prop) (hsm : ∀ i H, Pv i H → Same H0 H) (h0 : Pv 0 (upd H1 D (.lst [])))
    (hs : ∀ i x H, xs[i]? = some x → Pv i H → g x (wipe σ vs) H fun σ2 H2 => wipe σ2 vs = wipe σ vs ∧ tt σ2 H2 fun b H3 =>
      if b = true then te σ2 H3 fun y H4 => ∃ acc, H4 D = some (.lst acc) ∧ acc.length < sizeLine ∧ Pv (i + 1) (upd H4 D (.lst (acc ++ [y]))) else Pv (i + 1) H3) (hd : ∀ H, Pv xs.length H → Qd H) :
    ∃ W : Nat → Nat → Hp → Prop, (∃ m, W 0 m (upd H1 D (.lst []))) ∧ ∀ i m H, W i m H →
      (J.stop i H ∧ Qd H) ∨ (J.go i H ∧ ∃ Nx : Hp → Prop, (∀ H', Nx H' → ∃ m', m' < m ∧ W (i + 1) m' H') ∧ ∀ x H', J.yld i H x H' → g x (wipe σ vs) H' fun σ2 H2 => wipe σ2 vs = wipe σ vs ∧ tt σ2 H2 fun b H3 =>
        if b = true then te σ2 H3 fun y H4 => ∃ acc, H4 D = some (.lst acc) ∧ acc.length < sizeLine ∧ Nx (upd H4 D (.lst (acc ++ [y]))) else Nx H3) := by
  refine lc_gen Pv h0 (fun i H hi p => wk.go i H (hsm i H p) hi) (fun H p => wk.stop H (hsm _ H p)) (fun i x H H' hi p y => ?_) hd
  obtain ⟨e, ex⟩ := wk.yld i x H H' (hsm i H p) y
  subst e
  exact hs i x _ ex p
theorem for_wk {J : It} {H0 H : Hp} {xs : List V} {g : TG} {tb : TS} {D : Ends} {σ : L2.St} (wk : Wk J H0 xs) (Pv : Nat → L2.St → Hp → Prop) (hsm : ∀ i σ H, Pv i σ H → Same H0 H) (h0 : Pv 0 σ H)
    (hs : ∀ i x σ H, xs[i]? = some x → Pv i σ H → g x σ H fun σ2 H2 => tb { D with nx := Pv (i + 1), ct := Pv (i + 1), bk := D.nx } σ2 H2) (hd : ∀ σ H, Pv xs.length σ H → D.nx σ H) :
    ∃ W : Nat → Nat → L2.St → Hp → Prop, (∃ m, W 0 m σ H) ∧ ∀ i m σ H, W i m σ H →
      (J.stop i H ∧ D.nx σ H) ∨ (J.go i H ∧ ∃ N : L2.St → Hp → Prop, (∀ σ' H', N σ' H' → ∃ m', m' < m ∧ W (i + 1) m' σ' H') ∧ ∀ x H', J.yld i H x H' → g x σ H' fun σ2 H2 => tb { D with nx := N, ct := N, bk := D.nx } σ2 H2) := by
  refine ⟨fun i m σ H => m = xs.length - i ∧ i ≤ xs.length ∧ Pv i σ H, ⟨xs.length, by omega, Nat.zero_le _, h0⟩, ?_⟩
  rintro i m σ H ⟨rfl, hi, p⟩
  by_cases hlt : i < xs.length
  · refine Or.inr ⟨wk.go i H (hsm i σ H p) hlt, Pv (i + 1), fun σ' H' p' => ⟨xs.length - (i + 1), by omega, rfl, hlt, p'⟩, fun x H' y => ?_⟩
    obtain ⟨e, ex⟩ := wk.yld i x H H' (hsm i σ H p) y
    subst e
    exact hs i x σ _ ex p
  · have e : i = xs.length := by omega
    subst e
    exact Or.inl ⟨wk.stop H (hsm _ σ H p), hd σ H p⟩
section
variable {P : Program} {w : World} {K : PySem.W.Frag} {mg : Str → Option Value} {base : Heap}
theorem lex1 {c d : Nat} : (!decide (([c] : List Nat) < [d])) = decide (d ≤ c) := by
  have e : (([c] : List Nat) < [d]) ↔ c < d := by
    rw [List.cons_lt_cons_iff]
    simp
  by_cases h : c < d
  · rw [decide_eq_true (e.mpr h), decide_eq_false (by omega)]
    rfl
  · rw [decide_eq_false (fun z => h (e.mp z)), decide_eq_true (by omega)]
    rfl
/-! is_kind: slots 0:value 1:letter -/
abbrev s_is_kind : Stmt := topS 11
theorem sc_is_kind : FnScope ["value", "letter"] ["value"] (defScope s_is_kind) := ⟨rfl, rfl, rfl, by decide +kernel, rfl, by decide +kernel, by decide +kernel⟩
def sp_is_kind : Sp := fun vs H Q _ => ∃ z : Str, vs = [.str z] ∧ KindOk z ∧ ∀ H', Same H H' → Q (.bl true) H'
theorem ok_is_kind (D : Df K mg "is_kind" s_is_kind) (T : Tx mg) : Has P w K mg base 1 "is_kind" ["value"] sp_is_kind := by
  refine has_of D sc_is_kind (fun _ _ _ _ _ _ us hl => match us, hl with | [_], _ => rfl) (fun vs H Q E h => ?_) (fun f cdv A outer s H vs Q E hr h => ?_)
  · obtain ⟨n, rfl, _⟩ := h
    rfl
  · obtain ⟨z, rfl, ⟨k1, k2, k3⟩, q⟩ := h
    refine ⟨_, (pss_cons (ps_if (PW.pt (pw_or (pt_not (pt_val (pe_callB call_isi (by rfl) T.n_isinstance (by decide +kernel) (pa_cons (pv 0) (pa_cons (pe_bltn (v := .ty "str") (by rfl) T.n_str (by decide +kernel) rfl) pa_nil))))) (pw_or1 (pt_not (pt_chain op_le op_le pe_int (pe_callB call_len_str (by rfl) T.n_len (by decide +kernel) (pa_cons (pv 0) pa_nil)) (pe_glI T.c_MAX_LETTERS (by rfl))))))) (pss_one (ps_ret pe_bl)) pss_nil)
    (pss_one (ps_ret (pe_callB (cr_all rfl) (by rfl) T.n_all (by decide +kernel) (pa_cons (pe_lc (own := [("letter", 1)]) rfl sc_is_kind.nd (pi_str (pv 0)) (blkOk_by (N := ["value", "letter"]) (sc := defScope s_is_kind) (by decide +kernel)) (fun _ _ _ _ _ => (pg_name (i := 1) sc_is_kind.nd rfl (by first | exact Or.inl rfl | exact Or.inr rfl))) (fun _ _ _ _ _ => pts_nil) (fun _ _ _ _ _ => (pe_chain op_le_str op_le_str pe_str (pv 1) pe_str))) pa_nil))))), ?_⟩
    refine ⟨_, rfl, _, _, _, _, true, rfl, .ty "str", .base (.str z), kit_ty (by decide +kernel), true, rfl, iteF ?_⟩
    refine ⟨_, rfl, z, rfl, smallE (by omega), _, _, rfl, rfl, _, rfl, iteP (decide_eq_true (by omega)) ⟨_, _, rfl, rfl, _, rfl, iteN ?_ ?_⟩⟩
    · show (!decide ((z.length : Int) ≤ 8)) = false
      rw [decide_eq_true (by omega)]
      rfl
    refine ⟨_, rfl, z, rfl, fun L nL => lc_gen (n := z.cps.size) (fun i H' => Same H H' ∧ H' L = some (.lst ((List.replicate i true).map V.bl))) ⟨same_upd nL, upd_same⟩ (fun i H' hi _ => hi) (fun H' _ => Nat.le_refl _) (fun i x H1 H2 hi p y => ?_) (fun H' p => ?_)⟩
    · obtain ⟨rfl, c, ec, rfl⟩ := y
      obtain ⟨sm, hL⟩ := p
      have hc : 97 ≤ c ∧ c ≤ 122 := k3 c (by
        have := Array.mem_of_getElem? ec
        simpa using this)
      have ea : ("a" : Str).cps.toList = [97] := by decide +kernel
      have ez : ("z" : Str).cps.toList = [122] := by decide +kernel
      refine ⟨rfl, yesT ⟨_, rfl, _, _, rfl, rfl, _, rfl, iteP ?_ ⟨_, _, rfl, rfl, _, hL, ?_, ?_, ?_⟩⟩⟩
      · show (!decide (([c] : List Nat) < ("a" : Str).cps.toList)) = true
        rw [ea, lex1]
        exact decide_eq_true hc.1
      · simp only [List.length_map, List.length_replicate]
        exact small (by have : z.cps.size = z.length := rfl; omega)
      · intro b o e
        have nb : b ≠ L := ne_of_none e nL
        rw [upd_ne nb]
        exact sm b o e
      · rw [upd_same]
        have e1 : (!decide ((("z" : Str).cps.toList) < ([c] : List Nat))) = true := by
          rw [ez, lex1]
          exact decide_eq_true hc.2
        show some (HO.lst ((List.replicate i true).map V.bl ++ [V.bl (!decide ((("z" : Str).cps.toList) < ([c] : List Nat)))])) = _
        rw [e1, List.replicate_succ', List.map_append]
        rfl
    · refine ⟨L, _, rfl, .of p.2, ?_⟩
      have e : ((List.replicate z.cps.size true).all id) = true := by simp
      rw [e]
      exact q H' p.1
def StOk (st : Option Run) : Prop := ∀ r, st = some r → KindOk r.1 ∧ 1 ≤ r.2
theorem at0 {α : Type} {x y : α} : atI [x, y] 0 = some x := rfl
theorem at1 {α : Type} {x y : α} : atI [x, y] 1 = some y := rfl
theorem ix0 {K : PySem.W.Frag} {H : Hp} {t : Addr} {x y : V} {Q : VK} (h : Sq2 H t [x, y]) (q : Q x H) : rIx K (.ref t) (.int 0) H Q := h.elim (fun z => .inl ⟨t, _, 0, _, rfl, rfl, .of z, at0, q⟩) (fun z => .inr (.inl ⟨t, _, 0, _, rfl, rfl, .of z, at0, q⟩))
theorem ix1 {K : PySem.W.Frag} {H : Hp} {t : Addr} {x y : V} {Q : VK} (h : Sq2 H t [x, y]) (q : Q y H) : rIx K (.ref t) (.int 1) H Q := h.elim (fun z => .inl ⟨t, _, 1, _, rfl, rfl, .of z, at1, q⟩) (fun z => .inr (.inl ⟨t, _, 1, _, rfl, rfl, .of z, at1, q⟩))
theorem all_rep (n : Nat) : ((List.replicate n true).all id) = true := by simp
end
end UP

set_option Elab.async false
set_option linter.all false
set_option maxRecDepth 100000
set_option maxHeartbeats 4000000
namespace UP
open PySem PySem.Spec PyProof.Rows L2
section
variable {P : Program} {w : World} {K : PySem.W.Frag} {mg : Str → Option Value} {base : Heap}
def lenR (rs : List Run) : Int := (rs.map (·.2)).sum
end
end UP

set_option Elab.async false
set_option linter.all false
set_option maxRecDepth 100000
set_option maxHeartbeats 4000000
namespace UP
open PySem PySem.Spec PyProof.Rows L2
/-! ### the mirror of cut -/
theorem lenR_nil : lenR [] = 0 := rfl
theorem lenR_cons (r : Run) (l : List Run) : lenR (r :: l) = r.2 + lenR l := by
  unfold lenR
  rw [List.map_cons, List.sum_cons]
theorem lenR_app (l m : List Run) : lenR (l ++ m) = lenR l + lenR m := by
  induction l with
  | nil => rw [List.nil_append, lenR_nil]; omega
  | cons r t ih => rw [List.cons_append, lenR_cons, lenR_cons, ih]; omega
theorem lenR_snoc (l : List Run) (r : Run) : lenR (l ++ [r]) = lenR l + r.2 := by
  rw [lenR_app, lenR_cons, lenR_nil]
  omega
def sizeR (b s e c : Int) : Int := (if b + c < e then b + c else e) - (if b > s then b else s)
def pieceR (b s e : Int) (r : Run) : List Run := if 0 < sizeR b s e r.2 then [(r.1, sizeR b s e r.2)] else []
def cutR (s e : Int) : Int → List Run → List Run
  | _, [] => []
  | b, r :: t => pieceR b s e r ++ cutR s e (b + r.2) t
theorem cutR_snoc (s e : Int) : ∀ (l : List Run) (b : Int) (r : Run), cutR s e b (l ++ [r]) = cutR s e b l ++ pieceR (b + lenR l) s e r
  | [], b, r => by
    show pieceR b s e r ++ [] = [] ++ pieceR (b + lenR []) s e r
    rw [lenR_nil, Int.add_zero, List.append_nil, List.nil_append]
  | x :: t, b, r => by
    show pieceR b s e x ++ cutR s e (b + x.2) (t ++ [r]) = (pieceR b s e x ++ cutR s e (b + x.2) t) ++ pieceR (b + lenR (x :: t)) s e r
    rw [cutR_snoc s e t, lenR_cons, List.append_assoc, Int.add_assoc]
theorem pieceR_len (b s e : Int) (r : Run) : (pieceR b s e r).length ≤ 1 := by
  unfold pieceR
  split <;> simp
theorem cutR_len (s e : Int) : ∀ (l : List Run) (b : Int), (cutR s e b l).length ≤ l.length
  | [], _ => Nat.le_refl _
  | r :: t, b => by
    show (pieceR b s e r ++ cutR s e (b + r.2) t).length ≤ (r :: t).length
    have h1 := pieceR_len b s e r
    have h2 := cutR_len s e t (b + r.2)
    rw [List.length_append, List.length_cons]
    omega
section
variable {P : Program} {w : World} {K : PySem.W.Frag} {mg : Str → Option Value} {base : Heap}
end
end UP

set_option Elab.async false
set_option linter.all false
set_option maxRecDepth 100000
set_option maxHeartbeats 4000000
namespace UP
open PySem PySem.Spec PyProof.Rows L2
/-! ### the mirror of the states -/
def numR : Option Run → Int
  | none => 0
  | some r => r.2
def leavR : Option Run → Str → Int → Int
  | none, _, _ => 0
  | some r, k, c => if r.1 = k then 0 else if c < r.2 then c else r.2
def stepR : Option Run → Str → Int → Option Run
  | some r, k, c => if r.1 = k then some (k, r.2 + c) else if 0 < r.2 - c then some (r.1, r.2 - c) else if r.2 - c = 0 then none else some (k, -(r.2 - c))
  | none, k, c => some (k, c)
def withR (k : Str) (n : Int) : Option Run := if n = 0 then none else some (k, n)
def stR (rs : List Run) (st : Option Run) : Option Run := rs.foldl (fun s r => stepR s r.1 r.2) st
theorem stR_snoc (l : List Run) (r : Run) (st : Option Run) : stR (l ++ [r]) st = stepR (stR l st) r.1 r.2 := by
  unfold stR
  rw [List.foldl_append]
  rfl
section
variable {P : Program} {w : World} {K : PySem.W.Frag} {mg : Str → Option Value} {base : Heap}
end
end UP

set_option Elab.async false
set_option linter.all false
set_option maxRecDepth 100000
set_option maxHeartbeats 4000000
namespace UP
open PySem PySem.Spec PyProof.Rows L2
def DfD (K : PySem.W.Frag) (mg : Str → Option Value) (x : Str) (st : Stmt) (dvs : List V) : Prop := ∃ f fd, mg x = some (.ref f) ∧ FunD K x x (defArgs st) (defBody st) (defScope st) dvs [] f fd
/-- a def whose last parameter, kw, has the default None -/
def HasD (P : Program) (w : World) (K : PySem.W.Frag) (mg : Str → Option Value) (base : Heap) (k : Nat) (x : Str) (ps : List Str) (n : Nat) (kw : Str) (sp : Sp) : Prop :=
  ∃ f fd, mg x = some (.ref f) ∧ PySem.W.keepIn K (.ref f) = true ∧ Binds K fd ps [] ∧ (∃ ds, Vals [.non] ds ∧ Binds K fd ps ds) ∧ KBn K fd ps n [kw] (fun us ws => us ++ ws) (fun vs zs => vs ++ zs) ∧ FnOk P w K mg base CX0 k f fd ps sp
section
variable {P : Program} {w : World} {K : PySem.W.Frag} {mg : Str → Option Value} {base : Heap}
theorem HasD.has {k n : Nat} {x kw : Str} {ps : List Str} {sp : Sp} (h : HasD P w K mg base k x ps n kw sp) : Has P w K mg base k x ps sp := by
  obtain ⟨f, fd, g, kp, b, _, _, F⟩ := h
  exact ⟨f, fd, g, kp, b, F⟩
theorem has_ofD {x kw : Str} {st : Stmt} {ps N : List Str} {k n : Nat} {sp : Sp} (D : DfD K mg x st [.non]) (S : FnScope N ps (defScope st)) (hpn : ps.length = n + 1)
    (hb : ∀ (T : Addr) (kV doc pm : Value) (an : Option Addr) (cdv ct : Value) (us its : List Value), us.length = n + 1 → its.length = 1 →
      ∃ k, bindArgs (PySem.W.fnOf x x (defArgs st) (defBody st) (defScope st) (.ref T) kV doc pm an cdv ct) ⟨us, []⟩ = seqItems? (.ref T) >>= k ∧ k (some its.toArray) = pure (ps.zip us))
    (hb1 : ∀ (T : Addr) (kV doc pm : Value) (an : Option Addr) (cdv ct : Value) (us its : List Value), us.length = n → its.length = 1 →
      ∃ k, bindArgs (PySem.W.fnOf x x (defArgs st) (defBody st) (defScope st) (.ref T) kV doc pm an cdv ct) ⟨us, []⟩ = seqItems? (.ref T) >>= k ∧ k (some its.toArray) = pure (ps.zip (us ++ its)))
    (hb2 : ∀ (T : Addr) (kV doc pm : Value) (an : Option Addr) (cdv ct : Value) (us its : List Value) (v : Value), us.length = n → its.length = 1 →
      ∃ k, bindArgs (PySem.W.fnOf x x (defArgs st) (defBody st) (defScope st) (.ref T) kV doc pm an cdv ct) ⟨us, [(kw, v)]⟩ = seqItems? (.ref T) >>= k ∧ k (some its.toArray) = pure (ps.zip (us ++ [v])))
    (len : ∀ vs H Q E, sp vs H Q E → vs.length = ps.length)
    (body : ∀ (f : Addr) (cdv : Value) (A : Around) (outer : List Env) (s : Shared) (H : Hp) (vs : List V) (Q : VK) (E : XK), Room k (A.deeper (envOfC x (defScope st) s.heap.objs.size f cdv)) → sp vs H Q E →
      ∃ t, PSs (cxOf CX0 P w K mg base N x (defScope st) f cdv A outer s H E).nox (defBody st) t ∧ t { nx := fun _ H' => Q .non H', rt := Q } (start N vs) H) :
    HasD P w K mg base (k + 1) x ps n kw sp := by
  obtain ⟨f, fd, g, F⟩ := D
  have B0 : Binds K fd ps [] := by
    obtain ⟨ds, v, b⟩ := F.binds1 (n + 1) 1 (ps := ps) (by intro z; cases z) (by rw [hpn]; rfl) fun T kV doc pm an cdv ct us its h1 h2 => by
      obtain ⟨k, e1, e2⟩ := hb T kV doc pm an cdv ct us its h1 h2
      refine ⟨k, e1, ?_⟩
      have h3 : its.length ≤ 1 := Nat.le_of_eq h2
      rw [e2, List.drop_of_length_le h3, List.append_nil]
    cases v
    exact b
  have B1 : ∃ ds, Vals [V.non] ds ∧ Binds K fd ps ds := by
    obtain ⟨ds, v, b⟩ := F.binds1 n 0 (ps := ps) (by intro z; cases z) (by rw [hpn]; rfl) fun T kV doc pm an cdv ct us its h1 h2 => by
      obtain ⟨k, e1, e2⟩ := hb1 T kV doc pm an cdv ct us its h1 h2
      exact ⟨k, e1, by rw [e2, List.drop_zero]⟩
    exact ⟨ds, v, b⟩
  have B2 : KBn K fd ps n [kw] (fun us ws => us ++ ws) (fun vs zs => vs ++ zs) := by
    refine ⟨fun s us ws X l1 l2 => ?_, fun r1 r2 => r1.append r2⟩
    obtain ⟨oc, od, dV, kV, doc, pm, an, cdv, ct, osl, rfl, lk, hcd, hD, _⟩ := F.ex
    rcases hD with ⟨z, _⟩ | ⟨_, T, o, its, m, rfl, lT, oT, rT⟩
    · cases z
    · match ws, l2 with
      | [v], _ =>
        obtain ⟨k, e1, e2⟩ := hb2 T kV doc pm an cdv ct us its v l1 rT.length.symm
        refine BindsTo.of_looks fun M => ?_
        show PySem.W.Looks M s.heap (bindArgs _ ⟨us, [(kw, v)]⟩) _
        rw [e1]
        exact looks_items X lT oT (.of_pure e2)
  refine ⟨f, fd, g, F.kp, B0, B1, B2, F.ok S len fun cdv A outer s H vs Q E hr h => ?_⟩
  obtain ⟨t, p, q⟩ := body f cdv A outer s H vs Q E hr h
  exact ⟨t, p.nox, q⟩
end
section
variable {X : Cx}
/-- the default taken -/
theorem pe_callDH {k n : Nat} {x kw : Str} {ps : List Str} {sp : Sp} {p pos : Pos} {e : Expr} {es : List Expr} {t : TA} (G : HasD X.prog X.w X.K X.mg X.base k x ps n kw sp) (hr : Room k X.A) (hg : Gl X x) (ha : PA X (e :: es) t)
    (hdb : (x == ("__debug__" : Str)) = false := by decide) (he : starEach (e :: es) X.env = (false, eval e X.env) :: starEach es X.env := by rfl) (hpl : (backTo pos (starEach es X.env)).any (·.1) = false := by rfl) :
    PE X (.Call (.Name x p) (e :: es) [] pos) (tCall sp [.non] E0 t) := by
  obtain ⟨f, fd, g, kp, _, ⟨ds, v, b⟩, _, F⟩ := G
  exact pe_call F hr hg g kp b v pass0 ha hdb he hpl
/-- the last one by its name -/
theorem pe_callNH {k n : Nat} {x kw : Str} {ps : List Str} {sp : Sp} {p pos : Pos} {e : Expr} {es : List Expr} {kws : List Keyword} {t tk : TA} (G : HasD X.prog X.w X.K X.mg X.base k x ps n kw sp) (hr : Room k X.A) (hg : Gl X x) (ha : PA X (e :: es) t) (hk : PK X kws tk)
    (h1 : (backToKw pos (keywordEach kws X.env)).all (·.1.isSome) = true := by rfl) (h2 : (backToKw pos (keywordEach kws X.env)).filterMap (·.1) = [kw] := by rfl) (hdb : (x == ("__debug__" : Str)) = false := by decide)
    (he : starEach (e :: es) X.env = (false, eval e X.env) :: starEach es X.env := by rfl) (hpl : ((backTo pos (starEach (e :: es) X.env)).any (·.1) || (backToKw pos (keywordEach kws X.env)).any (·.1.isNone)) = false := by rfl) :
    PE X (.Call (.Name x p) (e :: es) kws pos) (tCallN n 1 sp (fun vs zs => vs ++ zs) E0 t tk) := by
  obtain ⟨f, fd, g, kp, _, _, b, F⟩ := G
  exact pe_callN F hr hg g kp b pass0 ha hk h1 h2 hdb he hpl
end
section
variable {P : Program} {w : World} {K : PySem.W.Frag} {mg : Str → Option Value} {base : Heap}
theorem SeqOk.pos {rs : List Run} (h : SeqOk rs) : ∀ r ∈ rs, 1 ≤ r.2 := fun r m => (h.2.1 r m).2.1
theorem pieceR_pos {b s e : Int} {r x : Run} (h : x ∈ pieceR b s e r) : 1 ≤ x.2 := by
  unfold pieceR at h
  split at h
  · rename_i z
    simp only [List.mem_singleton] at h
    subst h
    show 1 ≤ sizeR b s e r.2
    omega
  · cases h
theorem cutR_pos {s e : Int} : ∀ {l : List Run} {b : Int}, ∀ x ∈ cutR s e b l, 1 ≤ x.2
  | [], _, x, h => by cases h
  | r :: t, b, x, h => by
    rcases List.mem_append.mp (show x ∈ pieceR b s e r ++ cutR s e (b + r.2) t from h) with h | h
    · exact pieceR_pos h
    · exact cutR_pos x h
end
end UP

set_option Elab.async false
set_option linter.all false
set_option maxRecDepth 100000
set_option maxHeartbeats 4000000
namespace UP
open PySem PySem.Spec PyProof.Rows L2
section
variable {P : Program} {w : World} {K : PySem.W.Frag} {mg : Str → Option Value} {base : Heap}
end
end UP

set_option Elab.async false
set_option linter.all false
set_option maxRecDepth 100000
set_option maxHeartbeats 4000000
namespace UP
open PySem PySem.Spec PyProof.Rows L2
/-! ### data -/
def dRun (r : Run) : PyData := .tuple [.str r.1, .int r.2]
theorem dp_run {K : PySem.W.Frag} {H : Hp} {v : V} {r : Run} (h : RunV H v r) : Dp K H v (dRun r) := by
  obtain ⟨t, rfl, h⟩ := h
  exact .tup (.of h) (.cons (.str _) (.cons (.int _) .nil))
theorem dp_all {K : PySem.W.Frag} {H : Hp} : ∀ {xs : List V} {rs : List Run}, Paired (RunV H) xs rs → DpAll K H xs (rs.map dRun)
  | _, _, .nil => .nil
  | _, _, .cons h t => .cons (dp_run h) (dp_all t)
theorem KindOk.str {s : Str} (h : KindOk s) : PyData.strOk s = true := by
  unfold PyData.strOk
  rw [Array.all_eq_true']
  intro c hc
  have := h.2.2 c (by simpa using hc)
  exact decide_eq_true (by omega)
theorem can_run {r : Run} (h : KindOk r.1) : (dRun r).canLay0 = true := by
  simp [dRun, PyData.canLay0, PyData.canLayAll0, h.str]
theorem can_runs : ∀ {rs : List Run}, (∀ r ∈ rs, KindOk r.1) → PyData.canLayAll0 (rs.map dRun) = true
  | [], _ => by simp [PyData.canLayAll0]
  | r :: t, h => by
    rw [List.map_cons, PyData.canLayAll0, can_run (h r (List.mem_cons_self ..)), can_runs fun x hx => h x (List.mem_cons_of_mem _ hx)]
    rfl
theorem depth_run (r : Run) : (dRun r).depth ≤ 2 := by
  simp [dRun, PyData.depth, PyData.depthAll]
theorem depth_runs : ∀ (rs : List Run), PyData.depthAll (rs.map dRun) ≤ 2
  | [] => by simp [PyData.depthAll]
  | r :: t => by
    rw [List.map_cons, PyData.depthAll]
    exact Nat.max_le.mpr ⟨depth_run r, depth_runs t⟩
theorem shaped_runs {rs : List Run} (h : ∀ r ∈ rs, KindOk r.1) : SeqAt.shaped (.list (rs.map dRun)) = true := by
  unfold SeqAt.shaped
  rw [PyData.canLay0, can_runs h, PyData.depth]
  have := depth_runs rs
  exact decide_eq_true (by omega)
theorem shaped_run {r : Run} (h : KindOk r.1) : SeqAt.shaped (dRun r) = true := by
  unfold SeqAt.shaped
  rw [can_run h]
  have := depth_run r
  exact decide_eq_true (by omega)
theorem shaped_nil : SeqAt.shaped (.list []) = true := by decide
theorem eqv_nil (rs : List Run) : PyData.eqv (.list (rs.map dRun)) (.list []) = rs.isEmpty := by
  cases rs with
  | nil => simp [PyData.eqv, PyData.eqvAll]
  | cons r t => simp [PyData.eqv, PyData.eqvAll]
theorem sb {sp : Addr} {H H' : Hp} (h : Same H H') : But sp H H' := fun b o _ e => h b o e
theorem But.free {sp : Addr} {H H' : Hp} (b : But sp H H') (z : Spr H' sp) {p : Addr} (h : H' p = none) : H p = none := by
  by_cases e : p = sp
  · subst e
    obtain ⟨_, _, _, h1, _⟩ := z
    rw [h1] at h
    cases h
  · cases q : H p with
    | none => rfl
    | some o =>
      rw [b p o e q] at h
      cases h
theorem Spr.ne {sp p : Addr} {H : Hp} (z : Spr H sp) (h : H p = none) : p ≠ sp := by
  obtain ⟨_, _, _, h1, _⟩ := z
  exact fun e => by rw [e, h1] at h; cases h
instance (s : Str) : Decidable (KindOk s) := by
  unfold KindOk
  infer_instance
section
variable {P : Program} {w : World} {K : PySem.W.Frag} {mg : Str → Option Value} {base : Heap}
end
end UP

set_option Elab.async false
set_option linter.all false
set_option maxRecDepth 100000
set_option maxHeartbeats 4000000
namespace UP
open PySem PySem.Spec PyProof.Rows L2
theorem pe_bmK {X : Cx} {K : PySem.W.Frag} {e : Expr} {c : String} {r : V → List V → Hp → VK → Prop} {to : TE} {t : TA} (h : X.K = K) (p : PE X e (tBM X.K c r to t)) : PE X e (tBM K c r to t) := h ▸ p
theorem if_by {c : TT} {t u : TS} {D : Ends} {σ : L2.St} {H : Hp} (R : Bool → Hp → Prop) (h : ∀ Q' : Bool → Hp → Prop, (∀ b H', R b H' → Q' b H') → c σ H Q') (ht : ∀ H', R true H' → t D σ H') (hu : ∀ H', R false H' → u D σ H') : tIfS c t u D σ H := by
  refine h _ fun b H' r => ?_
  cases b with
  | true => exact iteT (ht H' r)
  | false => exact iteF (hu H' r)
theorem erase_map {α β : Type} (f : α → β) : ∀ (l : List α) (i : Nat), (l.map f).eraseIdx i = (l.eraseIdx i).map f
  | [], _ => rfl
  | x :: t, 0 => rfl
  | x :: t, i + 1 => by
    simp only [List.map_cons, List.eraseIdx_cons_succ]
    rw [erase_map f t i]
def eight : List Str := ["a", "b", "c", "ab", "zz", "abcdefgh", "aa", "z"]
theorem eight_ok : ∀ s ∈ eight, KindOk s := by decide +kernel
theorem alt_snoc {l : List Run} {x : Run} (h : Alt l) (k : ∀ y, l[l.length - 1]? = some y → y.1 ≠ x.1) : Alt (l ++ [x]) := by
  intro i a b ha hb
  by_cases h1 : i + 1 < l.length
  · rw [List.getElem?_append_left (by omega)] at ha
    rw [List.getElem?_append_left h1] at hb
    exact h i a b ha hb
  · by_cases h2 : i + 1 = l.length
    · rw [List.getElem?_append_left (by omega)] at ha
      rw [List.getElem?_append_right (by omega), h2, Nat.sub_self] at hb
      cases hb
      rw [show i = l.length - 1 by omega] at ha
      exact k a ha
    · rw [List.getElem?_append_right (by omega)] at hb
      rw [List.getElem?_eq_none (by simp; omega)] at hb
      cases hb
theorem pow62 {x : Int} (h0 : 0 ≤ x) (h1 : x ≤ 1000000) : -(2 ^ 62) ≤ x ∧ x < 2 ^ 62 := by omega
theorem wide8 {m : Int} (h0 : 0 ≤ m) (h1 : m ≤ 1000000000000000000000000000000000000000000000000000000000000) : m.natAbs < 2 ^ 8000 :=
  Nat.lt_of_lt_of_le (show m.natAbs < 2 ^ 256 by omega) (Nat.pow_le_pow_right (by decide) (by decide))
section
variable {P : Program} {w : World} {K : PySem.W.Frag} {mg : Str → Option Value} {base : Heap}
end
end UP

set_option Elab.async false
set_option linter.all false
set_option maxRecDepth 100000
set_option maxHeartbeats 4000000
namespace UP
open PySem PySem.Spec PyProof.Rows L2
def scR (t : Int) (rs : List Run) : List Run := rs.map fun r => (r.1, r.2 * t)
def toldR (ws : List Run) : Option Run := match ws with
  | [] => none
  | r :: _ => some (r.1, (ws.length : Int))
def repR (k : Str) (n : Int) : Option Run := if n = 0 then none else some (k, n)
theorem repR_zero (k : Str) : repR k 0 = none := if_pos rfl
theorem repR_pos {k : Str} {n : Int} (h : 0 < n) : repR k n = some (k, n) := if_neg (by omega)
def PosO (st : Option Run) : Prop := ∀ r, st = some r → 1 ≤ r.2
theorem stepR_pos {st : Option Run} {k : Str} {c : Int} (h : PosO st) (hc : 1 ≤ c) : PosO (stepR st k c) := by
  intro r e
  cases st with
  | none =>
    cases e
    exact hc
  | some x =>
    have hx := h x rfl
    have e : (if x.1 = k then some (k, x.2 + c) else if 0 < x.2 - c then some (x.1, x.2 - c) else if x.2 - c = 0 then none else some (k, -(x.2 - c))) = some r := e
    by_cases h1 : x.1 = k
    · rw [if_pos h1] at e
      cases e
      show 1 ≤ x.2 + c
      omega
    · rw [if_neg h1] at e
      by_cases h2 : 0 < x.2 - c
      · rw [if_pos h2] at e
        cases e
        show 1 ≤ x.2 - c
        omega
      · rw [if_neg h2] at e
        by_cases h3 : x.2 - c = 0
        · rw [if_pos h3] at e
          cases e
        · rw [if_neg h3] at e
          cases e
          show 1 ≤ -(x.2 - c)
          omega
theorem stR_cons (r : Run) (l : List Run) (st : Option Run) : stR (r :: l) st = stR l (stepR st r.1 r.2) := rfl
theorem stR_pos : ∀ {rs : List Run} {st : Option Run}, PosO st → (∀ r ∈ rs, 1 ≤ r.2) → PosO (stR rs st)
  | [], _, h, _ => h
  | r :: t, st, h, k => by
    rw [stR_cons]
    exact stR_pos (stepR_pos h (k r (List.mem_cons_self ..))) fun x hx => k x (List.mem_cons_of_mem _ hx)
theorem StOk.pos {st : Option Run} (h : StOk st) : PosO st := fun r e => (h r e).2
section
variable {P : Program} {w : World} {K : PySem.W.Frag} {mg : Str → Option Value} {base : Heap}
end
end UP

set_option Elab.async false
set_option linter.all false
set_option maxRecDepth 100000
set_option maxHeartbeats 4000000
namespace UP
open PySem PySem.Spec PyProof.Rows L2
/-! ### plain data, by depth -/
def Dsc (v : V) (d : PyData) : Prop := (v = .non ∧ d = .none) ∨ (∃ b, v = .bl b ∧ d = .bool b) ∨ (∃ i, v = .int i ∧ d = .int i) ∨ ∃ s, v = .str s ∧ d = .str s
def Dt (H : Hp) : Nat → V → PyData → Prop
  | 0, v, d => Dsc v d
  | n + 1, v, d => Dsc v d ∨ (∃ a xs ds, v = .ref a ∧ H a = some (.lst xs) ∧ d = .list ds ∧ Paired (Dt H n) xs ds ∧ ds.length ≤ 100000) ∨ ∃ a xs ds, v = .ref a ∧ H a = some (.tup xs) ∧ d = .tuple ds ∧ Paired (Dt H n) xs ds ∧ ds.length ≤ 100000
theorem Dt.same {H H' : Hp} (s : Same H H') : ∀ {n : Nat} {v : V} {d : PyData}, Dt H n v d → Dt H' n v d
  | 0, _, _, h => h
  | n + 1, v, d, h => by
    rcases h with h | ⟨a, xs, ds, e, h, e2, p, l⟩ | ⟨a, xs, ds, e, h, e2, p, l⟩
    · exact .inl h
    · exact .inr (.inl ⟨a, xs, ds, e, s _ _ h, e2, Paired.imp (fun _ _ z => Dt.same s z) p, l⟩)
    · exact .inr (.inr ⟨a, xs, ds, e, s _ _ h, e2, Paired.imp (fun _ _ z => Dt.same s z) p, l⟩)
theorem dsc_ref {a : Addr} {d : PyData} (h : Dsc (.ref a) d) : False := by
  rcases h with ⟨h, _⟩ | ⟨_, h, _⟩ | ⟨_, h, _⟩ | ⟨_, h, _⟩ <;> cases h
theorem dsc_lst {v : V} {ds : List PyData} (h : Dsc v (.list ds)) : False := by
  rcases h with ⟨_, h⟩ | ⟨_, _, h⟩ | ⟨_, _, h⟩ | ⟨_, _, h⟩ <;> cases h
theorem dsc_tup {v : V} {ds : List PyData} (h : Dsc v (.tuple ds)) : False := by
  rcases h with ⟨_, h⟩ | ⟨_, _, h⟩ | ⟨_, _, h⟩ | ⟨_, _, h⟩ <;> cases h
theorem dsc_one {v v' : V} {d : PyData} (h : Dsc v d) (h' : Dsc v' d) : v = v' := by
  rcases h with ⟨e, z⟩ | ⟨x, e, z⟩ | ⟨x, e, z⟩ | ⟨x, e, z⟩ <;> subst z <;> rcases h' with ⟨e', z⟩ | ⟨y, e', z⟩ | ⟨y, e', z⟩ | ⟨y, e', z⟩ <;> cases z <;> rw [e, e']
theorem kit_no {K : PySem.W.Frag} {c : String} (h1 : kitB c "list" = some false) (h2 : kitB c "tuple" = some false) : PySem.W.kitAny K (.type c) [.type "list", .type "tuple"] = some false :=
  kitAny_cons (b := false) (kit_ty h1) (fun _ => kitAny_cons (b := false) (kit_ty h2) (fun _ => rfl) (fun z => nomatch z)) (fun z => nomatch z)
theorem ixL {K : PySem.W.Frag} {x y : V} {H : Hp} {Q : VK} (h : rIxL K x y H Q) : rIx K x y H Q := .inl h
theorem ixT {K : PySem.W.Frag} {x y : V} {H : Hp} {Q : VK} (h : rIxT K x y H Q) : rIx K x y H Q := .inr (.inl h)
section
variable {P : Program} {w : World} {K : PySem.W.Frag} {mg : Str → Option Value} {base : Heap}
end
end UP

set_option Elab.async false
set_option linter.all false
set_option maxRecDepth 100000
set_option maxHeartbeats 4000000
namespace UP
open PySem PySem.Spec PyProof.Rows L2
/-! ### a walk over one object that stays, whatever else is changed -/
structure WkA (J : It) (H : Hp) (a : Addr) (xs : List V) : Prop where
  go : ∀ i H', H' a = H a → i < xs.length → J.go i H'
  stop : ∀ H', H' a = H a → J.stop xs.length H'
  yld : ∀ i x H' H'', H' a = H a → J.yld i H' x H'' → H'' = H' ∧ xs[i]? = some x
def iSeqA (i : Nat) : TI := fun σ H R => ∃ a xs, σ[i]? = some (some (.ref a)) ∧ Sq2 H a xs ∧ ∀ J, WkA J H a xs → R J H
section
variable {X : Cx}
theorem wka_list {K : PySem.W.Frag} {H : Hp} {a : Addr} {xs : List V} (h : H a = some (.lst xs)) : WkA (Itl K a) H a xs :=
  ⟨fun i H' e hi => ⟨xs, xs[i], .of (e.trans h), List.getElem?_eq_getElem hi⟩, fun H' e => ⟨xs, .of (e.trans h), Nat.le_refl _⟩, fun i x H' H'' e y => ⟨y.1, y.2 xs (.of (e.trans h))⟩⟩
theorem wka_tup {K : PySem.W.Frag} {H : Hp} {a : Addr} {xs : List V} (h : H a = some (.tup xs)) : WkA (Itt K a) H a xs :=
  ⟨fun i H' e hi => ⟨xs, xs[i], .of (e.trans h), List.getElem?_eq_getElem hi⟩, fun H' e => ⟨xs, .of (e.trans h), Nat.le_refl _⟩, fun i x H' H'' e y => ⟨y.1, y.2 xs (.of (e.trans h))⟩⟩
theorem pi_seqA (i : Nat) {x : Str} {pos : Pos} {tg : Expr} (hN : X.N[i]? = some x := by rfl) (hv : Vis X.env.scope x := by first | exact Or.inl rfl | exact Or.inr (Or.inl rfl) | exact Or.inr (Or.inr rfl)) (hd : (x == ("__debug__" : Str)) = false := by decide)
    (hc : (x == ("__classdict__" : Str)) = false := by decide) : PI X tg (.Name x pos) (iSeqA i) := by
  refine ⟨fun pins s σ H R I hw => ?_⟩
  obtain ⟨a, xs, e, h, k⟩ := hw
  rcases h with h | h
  · exact (pi_list (pe_var hN hv hd hc)).run pins s σ H R I ⟨_, e, a, rfl, ⟨xs, .of h⟩, k _ (wka_list h)⟩
  · exact (pi_tup (pe_var hN hv hd hc)).run pins s σ H R I ⟨_, e, a, rfl, ⟨xs, .of h⟩, k _ (wka_tup h)⟩
end
theorem lc_wka {J : It} {H0 H1 : Hp} {a : Addr} {xs : List V} {g : TG} {tt : TT} {te : TE} {vs : List Nat} {σ : L2.St} {D : Addr} {Qd : Hp → Prop} (wk : WkA J H0 a xs) (Pv : Nat → Hp → Prop) (hsm : ∀ i H, Pv i H → H a = H0 a) (h0 : Pv 0 (upd H1 D (.lst [])))
    (hs : ∀ i x H, xs[i]? = some x → Pv i H → g x (wipe σ vs) H fun σ2 H2 => wipe σ2 vs = wipe σ vs ∧ tt σ2 H2 fun b H3 =>
      if b = true then te σ2 H3 fun y H4 => ∃ acc, H4 D = some (.lst acc) ∧ acc.length < sizeLine ∧ Pv (i + 1) (upd H4 D (.lst (acc ++ [y]))) else Pv (i + 1) H3) (hd : ∀ H, Pv xs.length H → Qd H) :
    ∃ W : Nat → Nat → Hp → Prop, (∃ m, W 0 m (upd H1 D (.lst []))) ∧ ∀ i m H, W i m H →
      (J.stop i H ∧ Qd H) ∨ (J.go i H ∧ ∃ Nx : Hp → Prop, (∀ H', Nx H' → ∃ m', m' < m ∧ W (i + 1) m' H') ∧ ∀ x H', J.yld i H x H' → g x (wipe σ vs) H' fun σ2 H2 => wipe σ2 vs = wipe σ vs ∧ tt σ2 H2 fun b H3 =>
        if b = true then te σ2 H3 fun y H4 => ∃ acc, H4 D = some (.lst acc) ∧ acc.length < sizeLine ∧ Nx (upd H4 D (.lst (acc ++ [y]))) else Nx H3) := by
  refine lc_gen Pv h0 (fun i H hi p => wk.go i H (hsm i H p) hi) (fun H p => wk.stop H (hsm _ H p)) (fun i x H H' hi p y => ?_) hd
  obtain ⟨e, ex⟩ := wk.yld i x H H' (hsm i H p) y
  subst e
  exact hs i x _ ex p
theorem for_gen {J : It} {n : Nat} {H : Hp} {g : TG} {tb : TS} {D : Ends} {σ : L2.St} (Pv : Nat → L2.St → Hp → Prop) (h0 : Pv 0 σ H) (hg : ∀ i σ H, i < n → Pv i σ H → J.go i H) (hst : ∀ σ H, Pv n σ H → J.stop n H)
    (hs : ∀ i x σ H H', i < n → Pv i σ H → J.yld i H x H' → g x σ H' fun σ2 H2 => tb { D with nx := Pv (i + 1), ct := Pv (i + 1), bk := D.nx } σ2 H2) (hd : ∀ σ H, Pv n σ H → D.nx σ H) :
    ∃ W : Nat → Nat → L2.St → Hp → Prop, (∃ m, W 0 m σ H) ∧ ∀ i m σ H, W i m σ H →
      (J.stop i H ∧ D.nx σ H) ∨ (J.go i H ∧ ∃ N : L2.St → Hp → Prop, (∀ σ' H', N σ' H' → ∃ m', m' < m ∧ W (i + 1) m' σ' H') ∧ ∀ x H', J.yld i H x H' → g x σ H' fun σ2 H2 => tb { D with nx := N, ct := N, bk := D.nx } σ2 H2) := by
  refine ⟨fun i m σ H => m = n - i ∧ i ≤ n ∧ Pv i σ H, ⟨n, by omega, Nat.zero_le _, h0⟩, ?_⟩
  rintro i m σ H ⟨rfl, hi, p⟩
  by_cases hlt : i < n
  · exact Or.inr ⟨hg i σ H hlt p, Pv (i + 1), fun σ' H' p' => ⟨n - (i + 1), by omega, rfl, hlt, p'⟩, fun x H' y => hs i x σ H H' hlt p y⟩
  · have e : i = n := by omega
    subst e
    exact Or.inl ⟨hst σ H p, hd σ H p⟩
theorem for_wka {J : It} {H0 H : Hp} {a : Addr} {xs : List V} {g : TG} {tb : TS} {D : Ends} {σ : L2.St} (wk : WkA J H0 a xs) (Pv : Nat → L2.St → Hp → Prop) (hsm : ∀ i σ H, Pv i σ H → H a = H0 a) (h0 : Pv 0 σ H)
    (hs : ∀ i x σ H, xs[i]? = some x → Pv i σ H → g x σ H fun σ2 H2 => tb { D with nx := Pv (i + 1), ct := Pv (i + 1), bk := D.nx } σ2 H2) (hd : ∀ σ H, Pv xs.length σ H → D.nx σ H) :
    ∃ W : Nat → Nat → L2.St → Hp → Prop, (∃ m, W 0 m σ H) ∧ ∀ i m σ H, W i m σ H →
      (J.stop i H ∧ D.nx σ H) ∨ (J.go i H ∧ ∃ N : L2.St → Hp → Prop, (∀ σ' H', N σ' H' → ∃ m', m' < m ∧ W (i + 1) m' σ' H') ∧ ∀ x H', J.yld i H x H' → g x σ H' fun σ2 H2 => tb { D with nx := N, ct := N, bk := D.nx } σ2 H2) := by
  refine for_gen Pv h0 (fun i σ H hi p => wk.go i H (hsm i σ H p) hi) (fun σ H p => wk.stop H (hsm _ σ H p)) (fun i x σ H H' hi p y => ?_) hd
  obtain ⟨e, ex⟩ := wk.yld i x H H' (hsm i σ H p) y
  subst e
  exact hs i x σ _ ex p
theorem Sq2.eq {H H' : Hp} {a : Addr} {xs : List V} (h : Sq2 H a xs) (s : Same H H') : H' a = H a := h.elim (fun z => (s _ _ z).trans z.symm) (fun z => (s _ _ z).trans z.symm)
/-! ### data without its dress -/
def Sim (N : Addr → Prop) (H : Hp) : Nat → V → PyData → Prop
  | 0, v, d => Dsc v d
  | n + 1, v, d => Dsc v d ∨ ∃ a xs ds, v = .ref a ∧ N a ∧ Sq2 H a xs ∧ d = .list ds ∧ Paired (Sim N H n) xs ds ∧ ds.length ≤ 1000
theorem Sim.keep {N N' : Addr → Prop} {H H' : Hp} (hn : ∀ a, N a → N' a) (hk : ∀ a o, N a → H a = some o → H' a = some o) : ∀ {n : Nat} {v : V} {d : PyData}, Sim N H n v d → Sim N' H' n v d
  | 0, _, _, h => h
  | n + 1, v, d, h => by
    rcases h with h | ⟨a, xs, ds, e, na, hx, e2, p, l⟩
    · exact .inl h
    · exact .inr ⟨a, xs, ds, e, hn a na, hx.elim (fun z => .inl (hk _ _ na z)) (fun z => .inr (hk _ _ na z)), e2, Paired.imp (fun _ _ z => Sim.keep hn hk z) p, l⟩
theorem Sim.dsc {N : Addr → Prop} {H : Hp} {v : V} {d : PyData} : ∀ {n : Nat}, Dsc v d → Sim N H n v d
  | 0, h => h
  | n + 1, h => .inl h
section
variable {P : Program} {w : World} {K : PySem.W.Frag} {mg : Str → Option Value} {base : Heap}
end
end UP

set_option Elab.async false
set_option linter.all false
set_option maxRecDepth 100000
set_option maxHeartbeats 4000000
namespace UP
open PySem PySem.Spec PyProof.Rows L2
/-! ### waiting items one by one -/
def plS (ws : List Run) (k : Str) (n : Nat) : List Run := match ws with
  | [] => [(k, (n : Int))]
  | r :: t => if r.1 = k then (r :: t) ++ [(k, (n : Int))] else t
def plP (ws : List Run) (k : Str) (n : Nat) : List (Int × Int) := match ws with
  | [] => []
  | r :: _ => if r.1 = k then [] else [(r.2, (n : Int))]
def plA (ws : List Run) (n : Nat) : List Str → List Run
  | [] => ws
  | k :: t => plA (plS ws k n) (n + 1) t
def psR (ws : List Run) (n : Nat) : List Str → List (Int × Int)
  | [] => []
  | k :: t => plP ws k n ++ psR (plS ws k n) (n + 1) t
theorem plA_snoc : ∀ (l : List Str) (ws : List Run) (n : Nat) (k : Str), plA ws n (l ++ [k]) = plS (plA ws n l) k (n + l.length)
  | [], ws, n, k => rfl
  | x :: t, ws, n, k => by
    show plA (plS ws x n) (n + 1) (t ++ [k]) = plS (plA (plS ws x n) (n + 1) t) k (n + (x :: t).length)
    rw [plA_snoc t, List.length_cons, show n + 1 + t.length = n + (t.length + 1) by omega]
theorem psR_snoc : ∀ (l : List Str) (ws : List Run) (n : Nat) (k : Str), psR ws n (l ++ [k]) = psR ws n l ++ plP (plA ws n l) k (n + l.length)
  | [], ws, n, k => by
    show plP ws k n ++ [] = [] ++ plP ws k (n + 0)
    rw [List.append_nil, List.nil_append, Nat.add_zero]
  | x :: t, ws, n, k => by
    show plP ws x n ++ psR (plS ws x n) (n + 1) (t ++ [k]) = (plP ws x n ++ psR (plS ws x n) (n + 1) t) ++ plP (plA (plS ws x n) (n + 1) t) k (n + (x :: t).length)
    rw [psR_snoc t, List.length_cons, List.append_assoc, show n + 1 + t.length = n + (t.length + 1) by omega]
def plMs (ws : List Run) (ks : List Str) : List (List Run) := (List.range (ks.length + 1)).map fun m => plA ws 0 (ks.take m)
theorem plMs_snoc (ws : List Run) (l : List Str) (k : Str) : plMs ws (l ++ [k]) = plMs ws l ++ [plA ws 0 (l ++ [k])] := by
  unfold plMs
  rw [List.length_append, List.length_cons, List.length_nil, Nat.zero_add, List.range_succ, List.map_append]
  congr 1
  · refine List.map_congr_left fun m hm => ?_
    have : m ≤ l.length := by
      have := List.mem_range.mp hm
      omega
    rw [List.take_append_of_le_length this]
  · rw [List.map_singleton, List.take_of_length_le (by rw [List.length_append]; exact Nat.le_refl _)]
theorem plMs_nil (ws : List Run) : plMs ws [] = [ws] := rfl
theorem plMs_len (ws : List Run) (l : List Str) : (plMs ws l).length = l.length + 1 := by
  unfold plMs
  rw [List.length_map, List.length_range]
theorem plS_len (ws : List Run) (k : Str) (n : Nat) : (plS ws k n).length ≤ ws.length + 1 := by
  cases ws with
  | nil => exact Nat.le_refl _
  | cons r t =>
    show (if r.1 = k then (r :: t) ++ [(k, (n : Int))] else t).length ≤ _
    split
    · rw [List.length_append]
      exact Nat.le_refl _
    · rw [List.length_cons]
      omega
theorem plA_len : ∀ (l : List Str) (ws : List Run) (n : Nat), (plA ws n l).length ≤ ws.length + l.length
  | [], ws, n => Nat.le_refl _
  | k :: t, ws, n => by
    have h1 := plA_len t (plS ws k n) (n + 1)
    have h2 := plS_len ws k n
    show (plA (plS ws k n) (n + 1) t).length ≤ _
    rw [List.length_cons]
    omega
theorem plP_len (ws : List Run) (k : Str) (n : Nat) : (plP ws k n).length ≤ 1 := by
  cases ws with
  | nil => exact Nat.zero_le _
  | cons r t =>
    show (if r.1 = k then [] else [(r.2, (n : Int))]).length ≤ 1
    split <;> simp
theorem psR_len : ∀ (l : List Str) (ws : List Run) (n : Nat), (psR ws n l).length ≤ l.length
  | [], ws, n => Nat.le_refl _
  | k :: t, ws, n => by
    have h1 := psR_len t (plS ws k n) (n + 1)
    have h2 := plP_len ws k n
    show (plP ws k n ++ psR (plS ws k n) (n + 1) t).length ≤ _
    rw [List.length_append, List.length_cons]
    omega
theorem plS_kinds {ws : List Run} {k : Str} {n : Nat} (h : ∀ r ∈ ws, KindOk r.1) (hk : KindOk k) : ∀ r ∈ plS ws k n, KindOk r.1 := by
  intro r hr
  cases ws with
  | nil =>
    rw [List.mem_singleton.mp (show r ∈ [(k, (n : Int))] from hr)]
    exact hk
  | cons x t =>
    have hr : r ∈ (if x.1 = k then (x :: t) ++ [(k, (n : Int))] else t) := hr
    by_cases e : x.1 = k
    · rw [if_pos e] at hr
      rcases List.mem_append.mp hr with z | z
      · exact h r z
      · rw [List.mem_singleton.mp z]
        exact hk
    · rw [if_neg e] at hr
      exact h r (List.mem_cons_of_mem _ hr)
theorem plA_kinds : ∀ {l : List Str} {ws : List Run} {n : Nat}, (∀ r ∈ ws, KindOk r.1) → (∀ k ∈ l, KindOk k) → ∀ r ∈ plA ws n l, KindOk r.1
  | [], _, _, h, _ => h
  | k :: t, ws, n, h, hl => plA_kinds (l := t) (plS_kinds h (hl k (List.mem_cons_self ..))) fun x hx => hl x (List.mem_cons_of_mem _ hx)
def w0R : Option Run → List Run
  | none => []
  | some r => List.replicate r.2.toNat (r.1, -1)
def itR (rs : List Run) : List Str := rs.flatMap fun r => List.replicate r.2.toNat r.1
theorem itR_snoc (l : List Run) (r : Run) : itR (l ++ [r]) = itR l ++ List.replicate r.2.toNat r.1 := by
  unfold itR
  rw [List.flatMap_append]
  simp
def PV (H : Hp) (v : V) (p : Int × Int) : Prop := ∃ t, v = .ref t ∧ H t = some (.tup [.int p.1, .int p.2])
theorem PV.same {H H' : Hp} {v : V} {p : Int × Int} (s : Same H H') (h : PV H v p) : PV H' v p := by
  obtain ⟨t, e, h⟩ := h
  exact ⟨t, e, s _ _ h⟩
theorem PV.grow {H : Hp} {D : Addr} {acc acc' : List V} {v : V} {p : Int × Int} (hD : H D = some (.lst acc)) (h : PV H v p) : PV (upd H D (.lst acc')) v p := by
  obtain ⟨t, e, h⟩ := h
  refine ⟨t, e, ?_⟩
  rw [upd_ne (ne_of h hD (by intro q; cases q))]
  exact h
theorem Runs.grow {H : Hp} {D a : Addr} {acc acc' : List V} {ws : List Run} (hD : H D = some (.lst acc)) (n : a ≠ D) (h : Runs H a ws) : Runs (upd H D (.lst acc')) a ws := by
  obtain ⟨xs, hx, hp⟩ := h
  refine ⟨xs, ?_, prs_grow hD hp⟩
  rw [upd_ne n]
  exact hx
/-- a list of runs apart from two others -/
def WL (H : Hp) (M N : Addr) (v : V) (ws : List Run) : Prop := ∃ a, v = .ref a ∧ a ≠ M ∧ a ≠ N ∧ Runs H a ws
theorem WL.same {H H' : Hp} {M N : Addr} {v : V} {ws : List Run} (s : Same H H') (h : WL H M N v ws) : WL H' M N v ws := by
  obtain ⟨a, e, n1, n2, h⟩ := h
  exact ⟨a, e, n1, n2, h.same s⟩
/-- what the play keeps -/
structure Pl (H0 H : Hp) (W M N : Addr) (ws0 : List Run) (ks ls : List Str) : Prop where
  sm : Same H0 H
  wm : W ≠ M
  wn : W ≠ N
  wr : Runs H W (plA ws0 0 ls)
  ms : ∃ xs, H M = some (.lst xs) ∧ Paired (WL H M N) xs (plMs ws0 ks)
  ps : ∃ ys, H N = some (.lst ys) ∧ Paired (PV H) ys (psR ws0 0 ls)
theorem flat_one {α : Type} (x : α) : ∀ n : Nat, (List.replicate n [x]).flatten = List.replicate n x
  | 0 => rfl
  | n + 1 => by
    rw [List.replicate_succ, List.flatten_cons, flat_one x n]
    rfl
theorem paired_rep {α β : Type} {F : α → β → Prop} {a : α} {b : β} (h : F a b) : ∀ n : Nat, Paired F (List.replicate n a) (List.replicate n b)
  | 0 => .nil
  | n + 1 => .cons h (paired_rep h n)
theorem len_items {rs : List Run} (h : ∀ r ∈ rs, 1 ≤ r.2 ∧ r.2 ≤ 1000) : (itR rs).length ≤ 1000 * rs.length := by
  induction rs with
  | nil => exact Nat.le_refl _
  | cons r t ih =>
    have e : itR (r :: t) = List.replicate r.2.toNat r.1 ++ itR t := rfl
    have h1 := h r (List.mem_cons_self ..)
    have h2 := ih fun x hx => h x (List.mem_cons_of_mem _ hx)
    rw [e, List.length_append, List.length_replicate, List.length_cons]
    omega
end UP

set_option Elab.async false
set_option linter.all false
set_option maxRecDepth 100000
set_option maxHeartbeats 4000000
namespace UP
open PySem PySem.Spec PyProof.Rows L2
section
variable {P : Program} {w : World} {K : PySem.W.Frag} {mg : Str → Option Value} {base : Heap}
end
end UP

set_option Elab.async false
set_option linter.all false
set_option maxRecDepth 100000
set_option maxHeartbeats 4000000
namespace UP
open PySem PySem.Spec PyProof.Rows L2
/-! ### one arrival after the other -/
def stI (ks : List Str) (st : Option Run) : Option Run := ks.foldl (fun s k => stepR s k 1) st
theorem stI_app (l m : List Str) (st : Option Run) : stI (l ++ m) st = stI m (stI l st) := List.foldl_append ..
theorem step_same {r : Run} {k : Str} {c : Int} (h : r.1 = k) : stepR (some r) k c = some (k, r.2 + c) := if_pos h
theorem step_other {r : Run} {k : Str} {c : Int} (h : r.1 ≠ k) : stepR (some r) k c = if 0 < r.2 - c then some (r.1, r.2 - c) else if r.2 - c = 0 then none else some (k, -(r.2 - c)) := if_neg h
theorem step_step {s : Option Run} {k : Str} {c : Int} (h : PosO s) (hc : 1 ≤ c) : stepR (stepR s k 1) k c = stepR s k (1 + c) := by
  cases s with
  | none => exact step_same (r := (k, 1)) rfl
  | some r =>
    have r1 := h r rfl
    by_cases e : r.1 = k
    · rw [step_same e, step_same e, step_same (r := (k, r.2 + 1)) rfl]
      show some (k, r.2 + 1 + c) = _
      rw [Int.add_assoc]
    · rw [step_other e, step_other e]
      by_cases h1 : 0 < r.2 - 1
      · rw [if_pos h1, step_other (r := (r.1, r.2 - 1)) e]
        show (if 0 < r.2 - 1 - c then some (r.1, r.2 - 1 - c) else if r.2 - 1 - c = 0 then none else some (k, -(r.2 - 1 - c))) = _
        rw [show r.2 - 1 - c = r.2 - (1 + c) by omega]
      · have e2 : r.2 - 1 = 0 := by omega
        rw [if_neg h1, if_pos e2, if_neg (by omega), if_neg (by omega)]
        show some (k, c) = _
        rw [show -(r.2 - (1 + c)) = c by omega]
theorem it_step : ∀ (n : Nat) (s : Option Run) (k : Str), PosO s → stI (List.replicate (n + 1) k) s = stepR s k ((n : Int) + 1)
  | 0, s, k, _ => rfl
  | n + 1, s, k, h => by
    show stI (List.replicate (n + 1) k) (stepR s k 1) = _
    rw [it_step n _ k (stepR_pos h (by decide)), step_step h (by omega)]
    congr 1
    omega
theorem st_items : ∀ (rs : List Run) (st : Option Run), PosO st → (∀ r ∈ rs, 1 ≤ r.2) → stR rs st = stI (itR rs) st
  | [], st, _, _ => rfl
  | r :: t, st, h, k => by
    have c1 := k r (List.mem_cons_self ..)
    have e : itR (r :: t) = List.replicate r.2.toNat r.1 ++ itR t := rfl
    obtain ⟨n, hn⟩ : ∃ n : Nat, r.2.toNat = n + 1 := ⟨r.2.toNat - 1, by omega⟩
    rw [e, stI_app, hn, it_step n _ _ h, stR_cons, show ((n : Int) + 1) = r.2 by omega]
    exact st_items t _ (stepR_pos h c1) fun x hx => k x (List.mem_cons_of_mem _ hx)
theorem take_app {α : Type} : ∀ (l m : List α) (n : Nat), (l ++ m).take n = l.take n ++ m.take (n - l.length)
  | [], m, n => by
    rw [List.nil_append, List.take_nil, List.nil_append, List.length_nil, Nat.sub_zero]
  | x :: t, m, 0 => by
    rw [List.take_zero, List.take_zero, Nat.zero_sub, List.take_zero]
    rfl
  | x :: t, m, n + 1 => by
    rw [List.cons_append, List.take_succ_cons, take_app t m n, List.take_succ_cons, List.length_cons, Nat.add_sub_add_right]
    rfl
theorem it_app (l m : List Run) : itR (l ++ m) = itR l ++ itR m := List.flatMap_append ..
theorem cut_items (e : Int) : ∀ (rs : List Run) (b : Int), 0 ≤ b → (∀ r ∈ rs, 1 ≤ r.2) → itR (cutR 0 e b rs) = (itR rs).take (e - b).toNat
  | [], b, _, _ => by
    show ([] : List Str) = ([] : List Str).take _
    rw [List.take_nil]
  | r :: t, b, hb, k => by
    have c1 := k r (List.mem_cons_self ..)
    have ih := cut_items e t (b + r.2) (by omega) fun x hx => k x (List.mem_cons_of_mem _ hx)
    have e1 : cutR 0 e b (r :: t) = pieceR b 0 e r ++ cutR 0 e (b + r.2) t := rfl
    have e2 : itR (r :: t) = List.replicate r.2.toNat r.1 ++ itR t := rfl
    rw [e1, it_app, ih, e2, take_app, List.length_replicate, List.take_replicate, show (e - (b + r.2)).toNat = (e - b).toNat - r.2.toNat by omega]
    congr 1
    have es : sizeR b 0 e r.2 = (if b + r.2 < e then b + r.2 else e) - b := by
      unfold sizeR
      by_cases h0 : b > 0
      · rw [if_pos h0]
      · rw [if_neg h0, show b = 0 by omega]
    by_cases hs : 0 < sizeR b 0 e r.2
    · rw [show pieceR b 0 e r = [(r.1, sizeR b 0 e r.2)] from if_pos hs]
      show List.replicate (sizeR b 0 e r.2).toNat r.1 ++ [] = _
      rw [List.append_nil]
      congr 1
      rw [es] at hs ⊢
      split <;> omega
    · rw [show pieceR b 0 e r = [] from if_neg hs]
      rw [es] at hs
      rw [show min (e - b).toNat r.2.toNat = 0 by split at hs <;> omega]
      rfl
theorem len_it : ∀ (rs : List Run), (∀ r ∈ rs, 1 ≤ r.2) → ((itR rs).length : Int) = lenR rs
  | [], _ => rfl
  | r :: t, k => by
    have c1 := k r (List.mem_cons_self ..)
    have ih := len_it t fun x hx => k x (List.mem_cons_of_mem _ hx)
    have e2 : itR (r :: t) = List.replicate r.2.toNat r.1 ++ itR t := rfl
    rw [e2, List.length_append, List.length_replicate, lenR_cons]
    omega
/-! ### what is told of waiting items -/
def Uni (ws : List Run) : Prop := ∀ x ∈ ws, ∀ y ∈ ws, x.1 = y.1
theorem uni_plS {ws : List Run} {k : Str} {n : Nat} (h : Uni ws) : Uni (plS ws k n) := by
  cases ws with
  | nil =>
    intro x hx y hy
    rw [List.mem_singleton.mp (show x ∈ [(k, (n : Int))] from hx), List.mem_singleton.mp (show y ∈ [(k, (n : Int))] from hy)]
  | cons r t =>
    by_cases e : r.1 = k
    · rw [show plS (r :: t) k n = (r :: t) ++ [(k, (n : Int))] from if_pos e]
      have all : ∀ x ∈ (r :: t) ++ [(k, (n : Int))], x.1 = k := by
        intro x hx
        rcases List.mem_append.mp hx with z | z
        · rw [h x z r (List.mem_cons_self ..)]
          exact e
        · rw [List.mem_singleton.mp z]
      intro x hx y hy
      rw [all x hx, all y hy]
    · rw [show plS (r :: t) k n = t from if_neg e]
      exact fun x hx y hy => h x (List.mem_cons_of_mem _ hx) y (List.mem_cons_of_mem _ hy)
theorem told_plS {ws : List Run} {k : Str} {n : Nat} (h : Uni ws) : toldR (plS ws k n) = stepR (toldR ws) k 1 := by
  cases ws with
  | nil => rfl
  | cons r t =>
    by_cases e : r.1 = k
    · rw [show plS (r :: t) k n = (r :: t) ++ [(k, (n : Int))] from if_pos e]
      show some (r.1, (((r :: t) ++ [(k, (n : Int))]).length : Int)) = stepR (some (r.1, ((r :: t).length : Int))) k 1
      rw [step_same (r := (r.1, ((r :: t).length : Int))) e, List.length_append, e]
      show some (k, (((r :: t).length + 1 : Nat) : Int)) = some (k, ((r :: t).length : Int) + 1)
      rw [Int.natCast_add]
      rfl
    · rw [show plS (r :: t) k n = t from if_neg e]
      show toldR t = stepR (some (r.1, ((r :: t).length : Int))) k 1
      rw [step_other (r := (r.1, ((r :: t).length : Int))) e]
      cases t with
      | nil => rfl
      | cons x u =>
        have ex : x.1 = r.1 := h x (List.mem_cons_of_mem _ (List.mem_cons_self ..)) r (List.mem_cons_self ..)
        show some (x.1, ((x :: u).length : Int)) = if 0 < ((r :: x :: u).length : Int) - 1 then some (r.1, ((r :: x :: u).length : Int) - 1) else _
        rw [List.length_cons, List.length_cons, List.length_cons, if_pos (by omega), ex]
        congr 2
        omega
theorem told_plA : ∀ (l : List Str) (ws : List Run) (n : Nat), Uni ws → toldR (plA ws n l) = stI l (toldR ws)
  | [], _, _, _ => rfl
  | k :: t, ws, n, h => by
    show toldR (plA (plS ws k n) (n + 1) t) = stI t (stepR (toldR ws) k 1)
    rw [told_plA t _ _ (uni_plS h), told_plS h]
theorem uni_w0 (st : Option Run) : Uni (w0R st) := by
  cases st with
  | none => intro x hx; cases hx
  | some r =>
    intro x hx y hy
    rw [List.eq_of_mem_replicate hx, List.eq_of_mem_replicate hy]
theorem told_w0 {st : Option Run} (h : PosO st) : toldR (w0R st) = st := by
  cases st with
  | none => rfl
  | some r =>
    have r1 := h r rfl
    obtain ⟨n, hn⟩ : ∃ n : Nat, r.2.toNat = n + 1 := ⟨r.2.toNat - 1, by omega⟩
    show toldR (List.replicate r.2.toNat (r.1, (-1 : Int))) = some r
    rw [hn, List.replicate_succ]
    show some (r.1, (((r.1, (-1 : Int)) :: List.replicate n (r.1, (-1 : Int))).length : Int)) = some r
    rw [List.length_cons, List.length_replicate, show ((n + 1 : Nat) : Int) = r.2 by omega]
/-! ### all counts multiplied -/
def scO (t : Int) (st : Option Run) : Option Run := st.map fun r => (r.1, r.2 * t)
theorem lt_sc {a b t : Int} (ht : 0 < t) : a * t < b * t ↔ a < b :=
  ⟨fun h => by
    by_cases z : a < b
    · exact z
    · have := Int.mul_le_mul_of_nonneg_right (show b ≤ a by omega) (Int.le_of_lt ht)
      omega, fun h => Int.mul_lt_mul_of_pos_right h ht⟩
theorem size_sc {b s e c t : Int} (ht : 0 < t) : sizeR (b * t) (s * t) (e * t) (c * t) = sizeR b s e c * t := by
  unfold sizeR
  rw [← Int.add_mul, Int.sub_mul]
  congr 1
  · by_cases h : b + c < e
    · rw [if_pos h, if_pos ((lt_sc ht).mpr h)]
    · rw [if_neg h, if_neg fun z => h ((lt_sc ht).mp z)]
  · by_cases h : b > s
    · rw [if_pos h, if_pos ((lt_sc ht).mpr h)]
    · rw [if_neg h, if_neg fun z => h ((lt_sc ht).mp z)]
theorem pos_sc {a t : Int} (ht : 0 < t) : 0 < a * t ↔ 0 < a := by
  have := lt_sc (a := 0) (b := a) ht
  rw [Int.zero_mul] at this
  exact this
theorem piece_sc {b s e t : Int} {r : Run} (ht : 0 < t) : pieceR (b * t) (s * t) (e * t) (r.1, r.2 * t) = scR t (pieceR b s e r) := by
  unfold pieceR
  show (if 0 < sizeR (b * t) (s * t) (e * t) (r.2 * t) then [(r.1, sizeR (b * t) (s * t) (e * t) (r.2 * t))] else []) = _
  rw [size_sc ht]
  by_cases h : 0 < sizeR b s e r.2
  · rw [if_pos h, if_pos ((pos_sc ht).mpr h)]
    rfl
  · rw [if_neg h, if_neg fun z => h ((pos_sc ht).mp z)]
    rfl
theorem cut_sc {s e t : Int} (ht : 0 < t) : ∀ (rs : List Run) (b : Int), cutR (s * t) (e * t) (b * t) (scR t rs) = scR t (cutR s e b rs)
  | [], _ => rfl
  | r :: u, b => by
    have ih := cut_sc (s := s) (e := e) ht u (b + r.2)
    show pieceR (b * t) (s * t) (e * t) (r.1, r.2 * t) ++ cutR (s * t) (e * t) (b * t + r.2 * t) (scR t u) = scR t (pieceR b s e r ++ cutR s e (b + r.2) u)
    rw [← Int.add_mul, ih, piece_sc ht]
    unfold scR
    rw [List.map_append]
theorem step_sc {st : Option Run} {k : Str} {c t : Int} (ht : 0 < t) : stepR (scO t st) k (c * t) = scO t (stepR st k c) := by
  cases st with
  | none => rfl
  | some r =>
    show stepR (some (r.1, r.2 * t)) k (c * t) = _
    by_cases e : r.1 = k
    · rw [step_same (r := (r.1, r.2 * t)) e, step_same e]
      show some (k, r.2 * t + c * t) = some (k, (r.2 + c) * t)
      rw [Int.add_mul]
    · rw [step_other (r := (r.1, r.2 * t)) e, step_other e]
      show (if 0 < r.2 * t - c * t then some (r.1, r.2 * t - c * t) else if r.2 * t - c * t = 0 then none else some (k, -(r.2 * t - c * t))) = _
      rw [← Int.sub_mul]
      by_cases h : 0 < r.2 - c
      · rw [if_pos h, if_pos ((pos_sc ht).mpr h)]
        rfl
      · rw [if_neg h, if_neg fun z => h ((pos_sc ht).mp z)]
        by_cases h2 : r.2 - c = 0
        · rw [if_pos h2, h2, Int.zero_mul, if_pos rfl]
          rfl
        · have h3 : (r.2 - c) * t ≠ 0 := Int.mul_ne_zero h2 (by omega)
          rw [if_neg h2, if_neg h3]
          show some (k, -((r.2 - c) * t)) = some (k, -(r.2 - c) * t)
          rw [Int.neg_mul]
theorem st_sc {t : Int} (ht : 0 < t) : ∀ (rs : List Run) (st : Option Run), stR (scR t rs) (scO t st) = scO t (stR rs st)
  | [], _ => rfl
  | r :: u, st => by
    show stR (scR t u) (stepR (scO t st) r.1 (r.2 * t)) = scO t (stR u (stepR st r.1 r.2))
    rw [step_sc ht, st_sc ht u]
theorem len_sc {t : Int} : ∀ (rs : List Run), lenR (scR t rs) = lenR rs * t
  | [] => by
    show (0 : Int) = 0 * t
    rw [Int.zero_mul]
  | r :: u => by
    show lenR ((r.1, r.2 * t) :: scR t u) = _
    rw [lenR_cons, lenR_cons, len_sc u, Int.add_mul]
/-- the multiplied state at a multiplied moment -/
theorem whole_sc {t : Int} {rs : List Run} {st : Option Run} {p : Nat} (ht : 0 < t) (h : PosO st) (k : ∀ r ∈ rs, 1 ≤ r.2) :
    stR (cutR 0 ((p : Int) * t) 0 (scR t rs)) (scO t st) = scO t (toldR (plA (w0R st) 0 ((itR rs).take p))) := by
  have e := cut_sc (s := 0) (e := (p : Int)) ht rs 0
  rw [Int.zero_mul] at e
  rw [e, st_sc ht, told_plA _ _ _ (uni_w0 st), told_w0 h, st_items _ _ h cutR_pos, cut_items _ _ _ (Int.le_refl _) k, Int.sub_zero, Int.toNat_natCast]
end UP

set_option Elab.async false
set_option linter.all false
set_option maxRecDepth 100000
set_option maxHeartbeats 4000000
namespace UP
open PySem PySem.Spec PyProof.Rows L2
theorem room70 {A : Around} {k : Nat} (hr : Room k A) : A.units + 70 < cLine := by
  have := hr.un
  omega
theorem call_list_ofK {X : Cx} {K : PySem.W.Frag} (h : X.K = K) : CallR X (.type "list") (fun xs H Q => ∃ p ys, xs = [.ref p] ∧ (SqL K H p ys ∨ SqT K H p ys) ∧ ∀ l, H l = none → Q (.ref l) (upd H l (.lst ys))) := by
  subst h
  exact call_list_of
/-! ### data that a repr takes -/
structure Nice (w n : Nat) (d : PyData) : Prop where
  can : d.canLay0 = true
  dep : d.depth ≤ n
  sho : d.showable = true
  lea : d.leavesShort 100 = true
  wei : d.weight ≤ w
theorem Nice.mono {w w' n n' : Nat} {d : PyData} (h : Nice w n d) (h1 : w ≤ w') (h2 : n ≤ n') : Nice w' n' d := ⟨h.can, Nat.le_trans h.dep h2, h.sho, h.lea, Nat.le_trans h.wei h1⟩
theorem Nice.fits {w n : Nat} {d : PyData} (h : Nice w n d) (hw : w ≤ 150000) (hn : n ≤ 64) : d.showable = true ∧ SeqAt.shaped d = true ∧ d.shown.length ≤ sizeLine := by
  refine ⟨h.sho, ?_, ?_⟩
  · unfold SeqAt.shaped
    rw [h.can]
    have := h.dep
    exact decide_eq_true (by omega)
  · have h1 := PyData.shown_le 100 (by decide) d h.lea
    have h2 := h.wei
    have h3 : d.shown.length ≤ 16000000 := by omega
    exact Nat.le_trans h3 (by decide)
theorem nice_none : Nice 0 0 .none := ⟨rfl, Nat.le_refl _, rfl, rfl, Nat.le_refl _⟩
theorem nice_str {s : Str} (h : KindOk s) : Nice 8 0 (.str s) := by
  refine ⟨?_, Nat.le_refl _, rfl, ?_, h.2.1⟩
  · rw [PyData.canLay0]
    exact h.str
  · rw [PyData.leavesShort, List.all_eq_true]
    intro c hc
    have := h.2.2 c hc
    exact decide_eq_true (by omega)
theorem nice_int {i : Int} (h : i.natAbs < 10 ^ 60) : Nice 201 0 (.int i) := by
  have h2 : i.natAbs < 2 ^ 200 := Nat.lt_of_lt_of_le h (by decide)
  have h3 : i.natAbs.log2 < 200 := by
    by_cases z : i.natAbs = 0
    · rw [z]
      decide
    · exact (Nat.log2_lt z).mpr h2
  refine ⟨by rw [PyData.canLay0], Nat.le_refl _, ?_, ?_, ?_⟩
  · rw [PyData.showable]
    exact decide_eq_true (by omega)
  · rw [PyData.leavesShort]
    refine decide_eq_true ?_
    have e := int_text_length_le10 (k := 60) (by decide) h
    show (Str.ofString (toString i)).length ≤ 100
    rw [PySem.ofString_length]
    omega
  · rw [PyData.weight]
    split <;> omega
theorem nice_items {w n : Nat} : ∀ {ds : List PyData}, (∀ d ∈ ds, Nice w n d) → PyData.canLayAll0 ds = true ∧ PyData.depthAll ds ≤ n ∧ PyData.showableAll ds = true ∧ PyData.leavesShortAll 100 ds = true ∧ PyData.weightAll ds ≤ (w + 1) * ds.length
  | [], _ => ⟨rfl, Nat.zero_le _, rfl, rfl, Nat.zero_le _⟩
  | d :: t, h => by
    have h1 := h d (List.mem_cons_self ..)
    obtain ⟨a, b, c, e, f⟩ := nice_items (ds := t) fun x hx => h x (List.mem_cons_of_mem _ hx)
    refine ⟨?_, ?_, ?_, ?_, ?_⟩
    · rw [PyData.canLayAll0, h1.can, a]
      rfl
    · rw [PyData.depthAll]
      exact Nat.max_le.mpr ⟨h1.dep, b⟩
    · rw [PyData.showableAll, h1.sho, c]
      rfl
    · rw [PyData.leavesShortAll, h1.lea, e]
      rfl
    · have h2 := h1.wei
      rw [PyData.weightAll, List.length_cons, Nat.mul_succ]
      omega
theorem nice_list {w n : Nat} {ds : List PyData} (h : ∀ d ∈ ds, Nice w n d) : Nice ((w + 1) * ds.length) (n + 1) (.list ds) := by
  obtain ⟨a, b, c, e, f⟩ := nice_items h
  exact ⟨by rw [PyData.canLay0]; exact a, by rw [PyData.depth]; omega, by rw [PyData.showable]; exact c, by rw [PyData.leavesShort]; exact e, by rw [PyData.weight]; exact f⟩
theorem nice_tup {w n : Nat} {ds : List PyData} (h : ∀ d ∈ ds, Nice w n d) : Nice ((w + 1) * ds.length) (n + 1) (.tuple ds) := by
  obtain ⟨a, b, c, e, f⟩ := nice_items h
  exact ⟨by rw [PyData.canLay0]; exact a, by rw [PyData.depth]; omega, by rw [PyData.showable]; exact c, by rw [PyData.leavesShort]; exact e, by rw [PyData.weight]; exact f⟩
/-- v stands for d at H and at every heap that keeps H -/
def DpS (K : PySem.W.Frag) (H : Hp) (v : V) (d : PyData) : Prop := ∀ H', Same H H' → Dp K H' v d
theorem DpS.same {K : PySem.W.Frag} {H H' : Hp} {v : V} {d : PyData} (s : Same H H') (h : DpS K H v d) : DpS K H' v d := fun H2 s2 => h H2 (s.trans s2)
theorem dps_all {K : PySem.W.Frag} {H : Hp} {F : PyData → Prop} : ∀ {xs : List V}, (∀ x ∈ xs, ∃ d, DpS K H x d ∧ F d) → ∃ ds, (∀ H', Same H H' → DpAll K H' xs ds) ∧ ds.length = xs.length ∧ ∀ d ∈ ds, F d
  | [], _ => ⟨[], fun _ _ => .nil, rfl, fun d h => by cases h⟩
  | x :: t, h => by
    obtain ⟨d, h1, h2⟩ := h x (List.mem_cons_self ..)
    obtain ⟨ds, a, b, c⟩ := dps_all (xs := t) fun y hy => h y (List.mem_cons_of_mem _ hy)
    refine ⟨d :: ds, fun H' s => .cons (h1 H' s) (a H' s), congrArg Nat.succ b, fun z hz => ?_⟩
    rcases List.mem_cons.mp hz with e | e
    · rw [e]
      exact h2
    · exact c z e
theorem dps_seq {K : PySem.W.Frag} {H : Hp} {a : Addr} {xs : List V} {w n : Nat} (hx : Sq2 H a xs) (h : ∀ x ∈ xs, ∃ d, DpS K H x d ∧ Nice w n d) : ∃ d, DpS K H (.ref a) d ∧ Nice ((w + 1) * xs.length) (n + 1) d := by
  obtain ⟨ds, h1, h2, h3⟩ := dps_all h
  rcases hx with z | z
  · exact ⟨.list ds, fun H' s => .lst (.of (s _ _ z)) (h1 H' s), by rw [← h2]; exact nice_list h3⟩
  · exact ⟨.tuple ds, fun H' s => .tup (.of (s _ _ z)) (h1 H' s), by rw [← h2]; exact nice_tup h3⟩
theorem dps_run {K : PySem.W.Frag} {H : Hp} {v : V} {r : Run} (h : RunG H v r) (k : KindOk r.1) (c : r.2.natAbs < 10 ^ 60) : ∃ d, DpS K H v d ∧ Nice 404 1 d := by
  obtain ⟨t, rfl, h⟩ := h
  have := dps_seq (K := K) (w := 201) (n := 0) h fun x hx => by
    rcases List.mem_cons.mp hx with e | e
    · rw [e]
      exact ⟨.str r.1, fun _ _ => .str _, (nice_str k).mono (by decide) (Nat.le_refl _)⟩
    · rw [List.mem_singleton.mp e]
      exact ⟨.int r.2, fun _ _ => .int _, nice_int c⟩
  exact this
theorem dps_runs {K : PySem.W.Frag} {H : Hp} {v : V} {rs : List Run} (h : RunsG H v rs) (k : ∀ r ∈ rs, KindOk r.1 ∧ r.2.natAbs < 10 ^ 60) (l : rs.length ≤ 100) : ∃ d, DpS K H v d ∧ Nice 41000 2 d := by
  obtain ⟨a, xs, rfl, hx, hp⟩ := h
  have lx : xs.length = rs.length := Paired.len hp
  obtain ⟨d, h1, h2⟩ := dps_seq (K := K) (w := 404) (n := 1) hx fun x hx => by
    obtain ⟨i, hi, e⟩ := List.mem_iff_getElem.mp hx
    obtain ⟨r, er, hr⟩ := Paired.at hp (List.getElem?_eq_getElem hi)
    rw [e] at hr
    have := k r (List.mem_of_getElem? er)
    exact dps_run hr this.1 this.2
  exact ⟨d, h1, h2.mono (by rw [lx]; omega) (Nat.le_refl _)⟩
theorem dps_st {K : PySem.W.Frag} {H : Hp} {v : V} {st : Option Run} (h : StG H v st) (k : ∀ r, st = some r → KindOk r.1 ∧ r.2.natAbs < 10 ^ 60) : ∃ d, DpS K H v d ∧ Nice 41000 2 d := by
  cases st with
  | none =>
    cases h
    exact ⟨.none, fun _ _ => .non, nice_none.mono (by decide) (by decide)⟩
  | some r =>
    obtain ⟨d, h1, h2⟩ := dps_run (K := K) h (k r rfl).1 (k r rfl).2
    exact ⟨d, h1, h2.mono (by decide) (by decide)⟩
theorem dps_two {K : PySem.W.Frag} {H : Hp} {a : Addr} {x y : V} (h : H a = some (.lst [x, y])) (hx : ∃ d, DpS K H x d ∧ Nice 41000 2 d) (hy : ∃ d, DpS K H y d ∧ Nice 41000 2 d) : ∃ d, DpS K H (.ref a) d ∧ Nice 82002 3 d := by
  have := dps_seq (K := K) (a := a) (xs := [x, y]) (w := 41000) (n := 2) (.inl h) fun z hz => by
    rcases List.mem_cons.mp hz with e | e
    · rw [e]
      exact hx
    · rw [List.mem_singleton.mp e]
      exact hy
  exact this
/-! ### dressed and undressed -/
def dP (r : Run) : PyData := .list [.str r.1, .int r.2]
def dSq (rs : List Run) : PyData := .list (rs.map dP)
def dSt : Option Run → PyData
  | none => .none
  | some r => dP r
theorem sim_pair {N : Addr → Prop} {H : Hp} {n : Nat} (r : Run) : Paired (Sim N H n) [V.str r.1, V.int r.2] [PyData.str r.1, PyData.int r.2] := .cons (Sim.dsc (.inr (.inr (.inr ⟨_, rfl, rfl⟩)))) (.cons (Sim.dsc (.inr (.inr (.inl ⟨_, rfl, rfl⟩)))) .nil)
theorem sim_run {H : Hp} {sp : Addr} {v : V} {r : Run} {n : Nat} (z : Spr H sp) (h : RunV H v r) : Sim (· ≠ sp) H (n + 1) v (dP r) := by
  obtain ⟨t, rfl, h⟩ := h
  obtain ⟨_, _, _, hs, _⟩ := z
  exact .inr ⟨t, _, _, rfl, ne_of h hs (by intro q; cases q), .inr h, rfl, sim_pair r, Nat.le_of_ble_eq_true rfl⟩
theorem sim_seq {H : Hp} {sp a : Addr} {rs : List Run} (z : Spr H sp) (h : Runs H a rs) (l : rs.length ≤ 1000) : Sim (· ≠ sp) H 2 (.ref a) (dSq rs) := by
  have na := Runs.ne z h
  obtain ⟨xs, hx, hp⟩ := h
  refine .inr ⟨a, xs, _, rfl, na, .inl hx, rfl, ?_, by rw [List.length_map]; exact l⟩
  have gen : ∀ {xs : List V} {rs : List Run}, Paired (RunV H) xs rs → Paired (Sim (· ≠ sp) H 1) xs (rs.map dP) := by
    intro xs rs h
    induction h with
    | nil => exact .nil
    | cons h _ ih => exact .cons (sim_run z h) ih
  exact gen hp
theorem sim_st {H : Hp} {sp : Addr} {v : V} {st : Option Run} (z : Spr H sp) (h : StV H v st) : Sim (· ≠ sp) H 2 v (dSt st) := by
  cases st with
  | none =>
    cases h
    exact .inl (.inl ⟨rfl, rfl⟩)
  | some r => exact sim_run z h
theorem sim_one {N : Addr → Prop} {H : Hp} {n : Nat} {v : V} {r : Run} (h : Sim N H (n + 1) v (dP r)) : RunG H v r := by
  rcases h with h | ⟨a, xs, ds, rfl, _, hx, e, p, _⟩
  · exact (dsc_lst h).elim
  · cases e
    have scal : ∀ {m : Nat} {x : V} {s : Str}, Sim N H m x (.str s) → x = .str s := by
      intro m x s h
      have h : Dsc x (.str s) := by
        cases m with
        | zero => exact h
        | succ m =>
          rcases h with h | ⟨_, _, _, _, _, _, e, _⟩
          · exact h
          · cases e
      rcases h with ⟨_, e⟩ | ⟨_, _, e⟩ | ⟨_, _, e⟩ | ⟨y, e1, e⟩ <;> cases e
      exact e1
    have scai : ∀ {m : Nat} {x : V} {s : Int}, Sim N H m x (.int s) → x = .int s := by
      intro m x s h
      have h : Dsc x (.int s) := by
        cases m with
        | zero => exact h
        | succ m =>
          rcases h with h | ⟨_, _, _, _, _, _, e, _⟩
          · exact h
          · cases e
      rcases h with ⟨_, e⟩ | ⟨_, _, e⟩ | ⟨y, e1, e⟩ | ⟨_, _, e⟩ <;> cases e
      exact e1
    cases p with
    | cons h1 p1 =>
      cases p1 with
      | cons h2 p2 =>
        cases p2
        rw [scal h1, scai h2] at hx
        exact ⟨a, rfl, hx⟩
theorem sim_all {N : Addr → Prop} {H : Hp} : ∀ (rs : List Run) (xs : List V), Paired (Sim N H 1) xs (rs.map dP) → Paired (RunG H) xs rs
  | [], xs, h => by
    cases h
    exact .nil
  | r :: t, xs, h => by
    cases h with
    | cons h1 h2 => exact .cons (sim_one h1) (sim_all t _ h2)
theorem sim_runs {N : Addr → Prop} {H : Hp} {v : V} {rs : List Run} (h : Sim N H 2 v (dSq rs)) : RunsG H v rs := by
  rcases h with h | ⟨a, xs, ds, rfl, _, hx, e, p, _⟩
  · exact (dsc_lst h).elim
  · cases e
    refine ⟨a, xs, rfl, hx, ?_⟩
    exact sim_all rs xs p
theorem sim_stg {N : Addr → Prop} {H : Hp} {v : V} {st : Option Run} (h : Sim N H 2 v (dSt st)) : StG H v st := by
  cases st with
  | none =>
    rcases h with h | ⟨_, _, _, _, _, _, e, _⟩
    · rcases h with ⟨e, _⟩ | ⟨_, _, e⟩ | ⟨_, _, e⟩ | ⟨_, _, e⟩
      · exact e
      all_goals cases e
    · cases e
  | some r => exact sim_one h
/-! ### one by one -/
theorem at_moment {rs : List Run} {st : Option Run} {m : Nat} (h : PosO st) (k : ∀ r ∈ rs, 1 ≤ r.2) : stR (cutR 0 (m : Int) 0 rs) st = toldR (plA (w0R st) 0 ((itR rs).take m)) := by
  rw [told_plA _ _ _ (uni_w0 st), told_w0 h, st_items _ _ h cutR_pos, cut_items _ _ _ (Int.le_refl _) k, Int.sub_zero, Int.toNat_natCast]
theorem at_end {rs : List Run} {st : Option Run} (h : PosO st) (k : ∀ r ∈ rs, 1 ≤ r.2) : stR rs st = toldR (plA (w0R st) 0 (itR rs)) := by
  rw [told_plA _ _ _ (uni_w0 st), told_w0 h, st_items _ _ h k]
theorem plMs_get (ws : List Run) (ks : List Str) {n : Nat} (h : n ≤ ks.length) : (plMs ws ks)[n]? = some (plA ws 0 (ks.take n)) := by
  unfold plMs
  rw [List.getElem?_map, List.getElem?_range (by omega)]
  rfl
def dO : Option Run → PyData
  | none => .none
  | some r => dRun r
theorem dt_st {H : Hp} {v : V} {st : Option Run} {n : Nat} (h : StV H v st) : Dt H (n + 1) v (dO st) := by
  cases st with
  | none =>
    cases h
    exact .inl (.inl ⟨rfl, rfl⟩)
  | some r =>
    obtain ⟨t, rfl, h⟩ := h
    refine .inr (.inr ⟨t, _, _, rfl, h, rfl, .cons ?_ (.cons ?_ .nil), Nat.le_of_ble_eq_true rfl⟩)
    · cases n with
      | zero => exact .inr (.inr (.inr ⟨_, rfl, rfl⟩))
      | succ m => exact .inl (.inr (.inr (.inr ⟨_, rfl, rfl⟩)))
    · cases n with
      | zero => exact .inr (.inr (.inl ⟨_, rfl, rfl⟩))
      | succ m => exact .inl (.inr (.inr (.inl ⟨_, rfl, rfl⟩)))
theorem w0_len {st : Option Run} (h : ∀ r, st = some r → r.2 ≤ 1000) : (w0R st).length ≤ 1000 := by
  cases st with
  | none => exact Nat.zero_le _
  | some r =>
    have := h r rfl
    show (List.replicate r.2.toNat (r.1, (-1 : Int))).length ≤ 1000
    rw [List.length_replicate]
    omega
theorem w0_kinds {st : Option Run} (h : StOk st) : ∀ r ∈ w0R st, KindOk r.1 := by
  cases st with
  | none => intro r h; cases h
  | some x =>
    intro r hr
    rw [List.eq_of_mem_replicate hr]
    exact (h x rfl).1
theorem it_kinds {rs : List Run} (h : ∀ r ∈ rs, KindOk r.1) : ∀ k ∈ itR rs, KindOk k := by
  intro k hk
  obtain ⟨r, h1, h2⟩ := List.mem_flatMap.mp hk
  rw [List.eq_of_mem_replicate h2]
  exact h r h1
end UP

set_option Elab.async false
set_option linter.all false
set_option maxRecDepth 100000
set_option maxHeartbeats 4000000
namespace UP
open PySem PySem.Spec PyProof.Rows L2
theorem paired_snoc {α β : Type} {F : α → β → Prop} : ∀ {xs : List α} (l : List β) (y : β), Paired F xs (l ++ [y]) → ∃ xs0 x, xs = xs0 ++ [x] ∧ Paired F xs0 l ∧ F x y
  | _, [], y, h => by
    cases h with
    | cons h1 h2 =>
      cases h2
      exact ⟨[], _, rfl, .nil, h1⟩
  | _, z :: l, y, h => by
    cases h with
    | cons h1 h2 =>
      obtain ⟨xs0, x, e, h3, h4⟩ := paired_snoc l y h2
      exact ⟨_ :: xs0, x, by rw [e]; rfl, .cons h1 h3, h4⟩
theorem set_last {α : Type} : ∀ (l : List α) (x y : α), (l ++ [x]).set l.length y = l ++ [y]
  | [], _, _ => rfl
  | z :: l, x, y => congrArg (z :: ·) (set_last l x y)
theorem ixN_last {n : Nat} : ixN (n + 1) (-1) = some n := by
  unfold ixN
  simp
  omega
/-! ### one more run -/
def addR (rs : List Run) (r : Run) : List Run := match rs.getLast? with
  | none => [r]
  | some l => if l.1 = r.1 then rs.dropLast ++ [(r.1, l.2 + r.2)] else rs ++ [r]
def joinR (rs cs : List Run) : List Run := cs.foldl addR rs
theorem joinR_snoc (rs cs : List Run) (r : Run) : joinR rs (cs ++ [r]) = addR (joinR rs cs) r := by
  unfold joinR
  rw [List.foldl_append]
  rfl
theorem addR_len (rs : List Run) (r : Run) : (addR rs r).length ≤ rs.length + 1 := by
  unfold addR
  split
  · exact Nat.le_add_left _ _
  · split
    · rw [List.length_append, List.length_dropLast]
      simp only [List.length_cons, List.length_nil]
      omega
    · rw [List.length_append]
      exact Nat.le_refl _
theorem joinR_len : ∀ (cs rs : List Run), (joinR rs cs).length ≤ rs.length + cs.length
  | [], _ => Nat.le_refl _
  | c :: t, rs => by
    have h1 := joinR_len t (addR rs c)
    have h2 := addR_len rs c
    show (joinR (addR rs c) t).length ≤ _
    rw [List.length_cons]
    omega
theorem RunV.butL {H H' : Hp} {p : Addr} {xs : List V} {v : V} {r : Run} (hp : H p = some (.lst xs)) (b : But p H H') (h : RunV H v r) : RunV H' v r := by
  obtain ⟨t, e, h⟩ := h
  exact ⟨t, e, b _ _ (ne_of h hp (by intro q; cases q)) h⟩
section
variable {P : Program} {w : World} {K : PySem.W.Frag} {mg : Str → Option Value} {base : Heap}
end
end UP

set_option Elab.async false
set_option linter.all false
set_option maxRecDepth 100000
set_option maxHeartbeats 4000000
namespace UP
open PySem PySem.Spec PyProof.Rows L2
def runR (ks : List Str) : List Run := ks.foldl (fun rs k => addR rs (k, 1)) []
theorem runR_snoc (ks : List Str) (k : Str) : runR (ks ++ [k]) = addR (runR ks) (k, 1) := by
  unfold runR
  rw [List.foldl_append]
  rfl
theorem runR_len (ks : List Str) : (runR ks).length ≤ ks.length := by
  have gen : ∀ (ks : List Str) (rs : List Run), (ks.foldl (fun rs k => addR rs (k, 1)) rs).length ≤ rs.length + ks.length := by
    intro ks
    induction ks with
    | nil => intro rs; exact Nat.le_refl _
    | cons k t ih =>
      intro rs
      have h1 := ih (addR rs (k, 1))
      have h2 := addR_len rs (k, 1)
      show (t.foldl (fun rs k => addR rs (k, 1)) (addR rs (k, 1))).length ≤ _
      rw [List.length_cons]
      omega
  have := gen ks []
  rw [List.length_nil, Nat.zero_add] at this
  exact this
section
variable {P : Program} {w : World} {K : PySem.W.Frag} {mg : Str → Option Value} {base : Heap}
end
end UP

set_option Elab.async false
set_option linter.all false
set_option maxRecDepth 100000
set_option maxHeartbeats 4000000
namespace UP
open PySem PySem.Spec PyProof.Rows L2
theorem Alt.tail {r : Run} {t : List Run} (h : Alt (r :: t)) : Alt t := fun i x y hx hy => h (i + 1) x y hx hy
theorem addR_new {rs : List Run} {r : Run} (h : ∀ l, rs.getLast? = some l → l.1 ≠ r.1) : addR rs r = rs ++ [r] := by
  unfold addR
  cases e : rs.getLast? with
  | none =>
    rw [List.getLast?_eq_none_iff.mp e]
    rfl
  | some l => exact if_neg (h l e)
theorem addR_more (R : List Run) (l r : Run) (h : l.1 = r.1) : addR (R ++ [l]) r = R ++ [(r.1, l.2 + r.2)] := by
  unfold addR
  rw [List.getLast?_concat, List.dropLast_concat]
  exact if_pos h
theorem join_alt : ∀ (cs rs : List Run), Alt cs → (∀ l c, rs.getLast? = some l → cs.head? = some c → l.1 ≠ c.1) → joinR rs cs = rs ++ cs
  | [], rs, _, _ => by
    rw [List.append_nil]
    rfl
  | c :: t, rs, a, h => by
    show joinR (addR rs c) t = rs ++ c :: t
    rw [addR_new fun l hl => h l c hl rfl, join_alt t (rs ++ [c]) a.tail (fun l d hl hd => ?_), List.append_assoc]
    · rfl
    · rw [List.getLast?_concat] at hl
      cases hl
      cases t with
      | nil => cases hd
      | cons e u =>
        cases hd
        exact a 0 _ _ rfl rfl
theorem join_more (R : List Run) (l c : Run) (t : List Run) (a : Alt (c :: t)) (h : l.1 = c.1) : joinR (R ++ [l]) (c :: t) = R ++ [(c.1, l.2 + c.2)] ++ t := by
  show joinR (addR (R ++ [l]) c) t = _
  rw [addR_more R l c h, join_alt t _ a.tail (fun l' d hl hd => ?_)]
  rw [List.getLast?_concat] at hl
  cases hl
  cases t with
  | nil => cases hd
  | cons e u =>
    cases hd
    exact a 0 c _ rfl rfl
/-! ### items and runs -/
theorem run_more : ∀ (n : Nat) (R : List Run) (k : Str) (c : Int), (List.replicate n k).foldl (fun rs k => addR rs (k, 1)) (R ++ [(k, c)]) = R ++ [(k, c + (n : Int))]
  | 0, R, k, c => by
    rw [show c + ((0 : Nat) : Int) = c by omega]
    rfl
  | n + 1, R, k, c => by
    show (List.replicate n k).foldl (fun rs k => addR rs (k, 1)) (addR (R ++ [(k, c)]) (k, 1)) = _
    rw [addR_more R (k, c) (k, 1) rfl, run_more n R k (c + 1), show c + 1 + (n : Int) = c + ((n + 1 : Nat) : Int) by omega]
theorem run_one (n : Nat) (rs : List Run) (k : Str) (h : ∀ l, rs.getLast? = some l → l.1 ≠ k) : (List.replicate (n + 1) k).foldl (fun rs k => addR rs (k, 1)) rs = rs ++ [(k, (n : Int) + 1)] := by
  show (List.replicate n k).foldl (fun rs k => addR rs (k, 1)) (addR rs (k, 1)) = _
  rw [addR_new (r := (k, 1)) h, run_more n rs k 1, show (1 : Int) + (n : Int) = (n : Int) + 1 by omega]
theorem run_items : ∀ (rs R : List Run), Alt rs → (∀ r ∈ rs, 1 ≤ r.2) → (∀ l c, R.getLast? = some l → rs.head? = some c → l.1 ≠ c.1) → (itR rs).foldl (fun rs k => addR rs (k, 1)) R = R ++ rs
  | [], R, _, _, _ => by
    rw [List.append_nil]
    rfl
  | r :: t, R, a, p, h => by
    have c1 := p r (List.mem_cons_self ..)
    obtain ⟨n, hn⟩ : ∃ n : Nat, r.2.toNat = n + 1 := ⟨r.2.toNat - 1, by omega⟩
    have e : itR (r :: t) = List.replicate r.2.toNat r.1 ++ itR t := rfl
    rw [e, List.foldl_append, hn, run_one n R r.1 (fun l hl => h l r hl rfl), show (n : Int) + 1 = r.2 by omega, run_items t (R ++ [(r.1, r.2)]) a.tail (fun x hx => p x (List.mem_cons_of_mem _ hx)) (fun l d hl hd => ?_), List.append_assoc]
    · rfl
    · rw [List.getLast?_concat] at hl
      cases hl
      cases t with
      | nil => cases hd
      | cons e u =>
        cases hd
        exact a 0 _ _ rfl rfl
theorem run_it {rs : List Run} (a : Alt rs) (p : ∀ r ∈ rs, 1 ≤ r.2) : runR (itR rs) = rs := by
  have := run_items rs [] a p (fun l c hl => by cases hl)
  rw [List.nil_append] at this
  exact this
theorem it_one (k : Str) (c : Int) : itR [(k, c)] = List.replicate c.toNat k := by
  show List.replicate c.toNat k ++ [] = _
  rw [List.append_nil]
theorem it_add (rs : List Run) (k : Str) (p : ∀ r ∈ rs, 1 ≤ r.2) : itR (addR rs (k, 1)) = itR rs ++ [k] := by
  rcases List.eq_nil_or_concat rs with e0 | ⟨R0, l, e0⟩
  · subst e0
    rfl
  · rw [List.concat_eq_append] at e0
    subst e0
    have c1 := p l (List.mem_append.mpr (.inr (List.mem_singleton.mpr rfl)))
    by_cases h : l.1 = k
    · rw [addR_more R0 l (k, 1) h, it_app, it_app, List.append_assoc, it_one]
      congr 1
      have e : itR [l] = List.replicate l.2.toNat l.1 := it_one l.1 l.2
      show List.replicate (l.2 + 1).toNat k = itR [l] ++ [k]
      rw [e, h, show (l.2 + 1).toNat = l.2.toNat + 1 by omega, List.replicate_succ']
    · rw [addR_new (fun l' hl => by rw [List.getLast?_concat] at hl; cases hl; exact h), it_app]
      rfl
/-- what holds of the runs of some kinds -/
structure RunsOf (rs : List Run) (ks : List Str) : Prop where
  it : itR rs = ks
  pos : ∀ r ∈ rs, 1 ≤ r.2
  mem : ∀ r ∈ rs, r.1 ∈ ks
  alt : Alt rs
theorem runs_snoc {rs : List Run} {ks : List Str} {k : Str} (h : RunsOf rs ks) : RunsOf (addR rs (k, 1)) (ks ++ [k]) := by
  obtain ⟨i, p, m, a⟩ := h
  refine ⟨by rw [it_add rs k p, i], ?_, ?_, ?_⟩
  all_goals
    rcases List.eq_nil_or_concat rs with e0 | ⟨R0, l, e0⟩
  · subst e0
    intro r hr
    rw [List.mem_singleton.mp (show r ∈ [(k, (1 : Int))] from hr)]
    exact Int.le_refl 1
  · rw [List.concat_eq_append] at e0
    subst e0
    have c1 := p l (List.mem_append.mpr (.inr (List.mem_singleton.mpr rfl)))
    intro r hr
    by_cases h : l.1 = k
    · rw [addR_more R0 l (k, 1) h] at hr
      rcases List.mem_append.mp hr with z | z
      · exact p r (List.mem_append.mpr (.inl z))
      · rw [List.mem_singleton.mp z]
        show 1 ≤ l.2 + 1
        omega
    · rw [addR_new (fun l' hl => by rw [List.getLast?_concat] at hl; cases hl; exact h)] at hr
      rcases List.mem_append.mp hr with z | z
      · exact p r z
      · rw [List.mem_singleton.mp z]
        exact Int.le_refl 1
  · subst e0
    intro r hr
    rw [List.mem_singleton.mp (show r ∈ [(k, (1 : Int))] from hr)]
    exact List.mem_append.mpr (.inr (List.mem_singleton.mpr rfl))
  · rw [List.concat_eq_append] at e0
    subst e0
    intro r hr
    by_cases h : l.1 = k
    · rw [addR_more R0 l (k, 1) h] at hr
      rcases List.mem_append.mp hr with z | z
      · exact List.mem_append.mpr (.inl (m r (List.mem_append.mpr (.inl z))))
      · rw [List.mem_singleton.mp z]
        exact List.mem_append.mpr (.inr (List.mem_singleton.mpr rfl))
    · rw [addR_new (fun l' hl => by rw [List.getLast?_concat] at hl; cases hl; exact h)] at hr
      rcases List.mem_append.mp hr with z | z
      · exact List.mem_append.mpr (.inl (m r z))
      · rw [List.mem_singleton.mp z]
        exact List.mem_append.mpr (.inr (List.mem_singleton.mpr rfl))
  · subst e0
    intro i x y hx hy
    cases hy
  · rw [List.concat_eq_append] at e0
    subst e0
    by_cases h : l.1 = k
    · rw [addR_more R0 l (k, 1) h]
      have e : (R0 ++ [((k, (1 : Int)).1, l.2 + (k, (1 : Int)).2)]).map (·.1) = (R0 ++ [l]).map (·.1) := by
        rw [List.map_append, List.map_append]
        show R0.map (·.1) ++ [k] = R0.map (·.1) ++ [l.1]
        rw [h]
      intro i x y hx hy
      have ex := congrArg (fun z : List Str => z[i]?) e
      have ey := congrArg (fun z : List Str => z[i + 1]?) e
      simp only [List.getElem?_map] at ex ey
      rw [hx] at ex
      rw [hy] at ey
      cases gx : (R0 ++ [l])[i]? with
      | none => rw [gx] at ex; cases ex
      | some x' =>
        cases gy : (R0 ++ [l])[i + 1]? with
        | none => rw [gy] at ey; cases ey
        | some y' =>
          rw [gx] at ex
          rw [gy] at ey
          have ex : x.1 = x'.1 := Option.some.inj ex
          have ey : y.1 = y'.1 := Option.some.inj ey
          rw [ex, ey]
          exact a i x' y' gx gy
    · rw [addR_new (fun l' hl => by rw [List.getLast?_concat] at hl; cases hl; exact h)]
      refine alt_snoc a fun y hy => ?_
      rw [← List.getLast?_eq_getElem?, List.getLast?_concat] at hy
      cases hy
      exact h
theorem runs_of_all : ∀ (ks l : List Str) (R : List Run), RunsOf R l → RunsOf (ks.foldl (fun rs k => addR rs (k, 1)) R) (l ++ ks)
  | [], l, R, h => by
    rw [List.append_nil]
    exact h
  | k :: t, l, R, h => by
    have := runs_of_all t (l ++ [k]) _ (runs_snoc (k := k) h)
    rw [List.append_assoc] at this
    exact this
theorem runs_all (ks : List Str) : RunsOf (runR ks) ks := runs_of_all ks [] [] ⟨rfl, (fun r h => by cases h), (fun r h => by cases h), fun i x y hx => by simp at hx⟩
theorem len_mem {rs : List Run} (p : ∀ r ∈ rs, 1 ≤ r.2) : ∀ r ∈ rs, r.2 ≤ lenR rs := by
  induction rs with
  | nil => intro r h; cases h
  | cons x t ih =>
    intro r hr
    have c1 := p x (List.mem_cons_self ..)
    have ih' := ih fun y hy => p y (List.mem_cons_of_mem _ hy)
    rw [lenR_cons]
    have nn : 0 ≤ lenR t := by
      have := len_it t fun y hy => p y (List.mem_cons_of_mem _ hy)
      omega
    rcases List.mem_cons.mp hr with e | e
    · rw [e]
      omega
    · have := ih' r e
      omega
theorem seq_runs {ks : List Str} (l : ks.length ≤ 400) (ok : ∀ k ∈ ks, KindOk k) : SeqOk (runR ks) ∧ lenR (runR ks) ≤ 400 ∧ itR (runR ks) = ks := by
  obtain ⟨i, p, m, a⟩ := runs_all ks
  have ll := len_it (runR ks) p
  rw [i] at ll
  refine ⟨⟨?_, fun r hr => ⟨ok _ (m r hr), p r hr, ?_⟩, a⟩, by omega, i⟩
  · exact Nat.le_trans (runR_len ks) l
  · have := len_mem p r hr
    omega
end UP

set_option Elab.async false
set_option linter.all false
set_option maxRecDepth 100000
set_option maxHeartbeats 4000000
set_option pp.maxSteps 300
namespace UP
open PySem PySem.Spec PyProof.Rows L2
/-! ### the bag: a list of the cells, the next one, the rest of a large one, the number of draws, a mixed number -/
structure BagS where
  ns : List Int
  i : Int
  r : Int
  d : Int
  t : Int
def Bag (H : Hp) (p cl : Addr) (n : Nat) : Prop := ∃ b : BagS, H p = some (.lst [.ref cl, .int b.i, .int b.r, .int b.d, .int b.t]) ∧ H cl = some (.lst (b.ns.map V.int)) ∧ b.ns.length ≤ 63 ∧ 0 ≤ b.i ∧ b.i ≤ b.ns.length ∧ 0 ≤ b.r ∧ 0 ≤ b.d ∧ b.d ≤ n ∧ 0 ≤ b.t ∧ b.t < 2305843009213693951
theorem Bag.same {H H' : Hp} {p cl : Addr} {n : Nat} (z : Bag H p cl n) (s : Same H H') : Bag H' p cl n := by
  obtain ⟨b, h1, h2, r⟩ := z
  exact ⟨b, s _ _ h1, s _ _ h2, r⟩
theorem Bag.mono {H : Hp} {p cl : Addr} {n m : Nat} (z : Bag H p cl n) (l : n ≤ m) : Bag H p cl m := by
  obtain ⟨b, h1, h2, h3, h4, h5, h6, h7, h8, h9⟩ := z
  exact ⟨b, h1, h2, h3, h4, h5, h6, h7, by omega, h9⟩
theorem Bag.ne {H : Hp} {p cl q : Addr} {n : Nat} (z : Bag H p cl n) (h : H q = none) : q ≠ p := by
  obtain ⟨b, h1, _⟩ := z
  exact (ne_of_none h1 h).symm
theorem bag_ints {cl : Addr} {a b c d : Int} {ns : List Int} : HO.lst (ns.map V.int) ≠ .lst [.ref cl, .int a, .int b, .int c, .int d] := by
  intro q
  cases ns with
  | nil => cases q
  | cons x t => cases q
theorem Bag.cl_ne {H : Hp} {p cl : Addr} {n : Nat} (z : Bag H p cl n) : cl ≠ p := by
  obtain ⟨b, h1, h2, _⟩ := z
  exact ne_of h2 h1 bag_ints
/-- what is kept apart from the bag's list keeps the bag -/
theorem Bag.keep {H H' : Hp} {p cl : Addr} {n : Nat} (z : Bag H p cl n) (k : ∀ o, H p = some o → H' p = some o) (c : ∀ o, H cl = some o → H' cl = some o) : Bag H' p cl n := by
  obtain ⟨b, h1, h2, r⟩ := z
  exact ⟨b, k _ h1, c _ h2, r⟩
theorem at50 {α : Type} {x y z u w : α} : atI [x, y, z, u, w] 0 = some x := rfl
theorem at51 {α : Type} {x y z u w : α} : atI [x, y, z, u, w] 1 = some y := rfl
theorem at52 {α : Type} {x y z u w : α} : atI [x, y, z, u, w] 2 = some z := rfl
theorem at53 {α : Type} {x y z u w : α} : atI [x, y, z, u, w] 3 = some u := rfl
theorem at54 {α : Type} {x y z u w : α} : atI [x, y, z, u, w] 4 = some w := rfl
theorem atI_ofB {α : Type} {l : List α} {i : Int} {x : α} (h0 : 0 ≤ i) (h : l[i.toNat]? = some x) : atI l i = some x := by
  have : i < l.length := by
    obtain ⟨q, _⟩ := List.getElem?_eq_some_iff.mp h
    omega
  unfold atI ixN
  rw [if_pos h0, if_pos (by omega)]
  exact h
theorem p18 : (10 : Int) ^ ((18 : Int).toNat) = 1000000000000000000 := by decide +kernel
theorem wideB {m : Int} (h0 : 0 ≤ m) (h1 : m ≤ 1000000000000000000000000000000000000000000000000000000000000) : m.natAbs < 2 ^ 8000 :=
  Nat.lt_of_le_of_lt (m := 1000000000000000000000000000000000000000000000000000000000000) (by omega) (by decide +kernel)
section
variable {P : Program} {w : World} {K : PySem.W.Frag} {mg : Str → Option Value} {base : Heap}
/-! _law_bag: slots 0:script 1:total 2:cell -/
abbrev s_law_bag : Stmt := topS 34
theorem sc_law_bag : FnScope ["script", "total", "cell"] ["script"] (defScope s_law_bag) := ⟨rfl, rfl, rfl, by decide +kernel, rfl, by decide +kernel, by decide +kernel⟩
def sp_law_bag (K : PySem.W.Frag) : Sp := fun vs H Q _ => ∃ (a : Addr) (ns : List Int), vs = [.ref a] ∧ SqL K H a (ns.map V.int) ∧ ns.length ≤ 63 ∧ ∀ H' p cl, Same H H' → H p = none → H cl = none → Bag H' p cl 0 → Q (.ref p) H'
theorem ok_law_bag (D : Df K mg "_law_bag" s_law_bag) (T : Tx mg) : Has P w K mg base 1 "_law_bag" ["script"] (sp_law_bag K) := by
  refine has_of D sc_law_bag (fun _ _ _ _ _ _ us hl => match us, hl with | [_], _ => rfl) (fun vs H Q E h => ?_) (fun f cdv A outer s₀ H vs Q E hr h => ?_)
  · obtain ⟨_, _, rfl, _⟩ := h
    rfl
  · obtain ⟨a, ns, rfl, hS, l63, q⟩ := h
    refine ⟨_, (pss_cons (ps_set (i := 1) sc_law_bag.nd rfl (by first | exact Or.inl rfl | exact Or.inr rfl) pe_int)
    (pss_cons (ps_for PassesOwn.never rfl (pi_list (pv 0)) (pg_name (i := 2) sc_law_bag.nd rfl (by first | exact Or.inl rfl | exact Or.inr rfl))
      (pss_one (ps_set (i := 1) sc_law_bag.nd rfl (by first | exact Or.inl rfl | exact Or.inr rfl) (pe_op op_mod (pe_op op_add (pe_op op_add (pe_op op_mul (pv 1) pe_int) (pe_op op_mod (pv 2) pe_int)) pe_int) pe_int))))
    (pss_one (ps_ret (pe_lst (pa_cons (pe_callTy call_list_of (by rfl) T.n_list (by decide +kernel) (pa_cons (pv 0) pa_nil)) (pa_cons pe_int (pa_cons pe_int (pa_cons pe_int (pa_cons (pv 1) pa_nil)))))))))), ?_⟩
    refine ⟨_, rfl, a, rfl, ⟨_, hS⟩, for_list (K := K) (a := a) (xs := ns.map V.int) (fun i σ H' => ∃ (t : Int) (y : Option V), σ = [some (.ref a), some (.int t), y] ∧ H' = H ∧ 0 ≤ t ∧ t < 2305843009213693951)
      ⟨1, none, rfl, rfl, by decide, by decide⟩ (fun i σ H' _ hP => ?_) (fun i x σ H1 ex hP => ?_) (fun σ H1 hP => ?_)⟩
    · obtain ⟨_, _, _, rfl, _⟩ := hP
      exact hS
    · obtain ⟨t, y, rfl, rfl, t0, t1⟩ := hP
      rw [List.getElem?_map] at ex
      cases e : ns[i]? with
      | none =>
        rw [e] at ex
        cases ex
      | some c =>
        rw [e] at ex
        cases ex
        refine ⟨_, rfl, _, _, rfl, rfl, .inr ⟨by decide, by decide⟩, _, rfl, _, _, rfl, rfl, (by show (0 : Int) < _; decide), _, _, rfl, rfl, _, _, rfl, rfl, _, _, rfl, rfl, (by show (0 : Int) < _; decide), ?_⟩
        exact ⟨_, _, rfl, rfl, Int.emod_nonneg _ (by decide), Int.emod_lt_of_pos _ (by decide)⟩
    · obtain ⟨t, y, rfl, rfl, t0, t1⟩ := hP
      refine ⟨_, rfl, a, _, rfl, .inl hS, fun cl ncl => ⟨_, rfl, (by show 5 ≤ sizeLine; decide), fun p np => ?_⟩⟩
      have s1 := same_upd (o := .lst (ns.map V.int)) ncl
      have s2 := same_upd (o := .lst [.ref cl, .int 0, .int 0, .int 0, .int t]) np
      exact q _ p cl (s1.trans s2) (s1.free np) ncl ⟨⟨ns, 0, 0, 0, t⟩, upd_same, s2 _ _ upd_same, l63, Int.le_refl _, by show (0 : Int) ≤ _; omega, Int.le_refl _, Int.le_refl _, by show (0 : Int) ≤ ((0 : Nat) : Int); decide, t0, t1⟩
/-! _law_stir: slots 0:number 1:place 2:one 3:two -/
abbrev s_law_stir : Stmt := topS 35
theorem sc_law_stir : FnScope ["number", "place", "one", "two"] ["number", "place"] (defScope s_law_stir) := ⟨rfl, rfl, rfl, by decide +kernel, rfl, by decide +kernel, by decide +kernel⟩
def sp_law_stir : Sp := fun vs H Q _ => ∃ (a d : Int), vs = [.int a, .int d] ∧ 0 ≤ a ∧ a < 2305843009213693951 ∧ 0 ≤ d ∧ d ≤ 1000000000000000 ∧ ∀ r, Q (.int r) H
theorem ok_law_stir (D : Df K mg "_law_stir" s_law_stir) (T : Tx mg) : Has P w K mg base 1 "_law_stir" ["number", "place"] sp_law_stir := by
  refine has_of D sc_law_stir (fun _ _ _ _ _ _ us hl => match us, hl with | [_, _], _ => rfl) (fun vs H Q E h => ?_) (fun f cdv A outer s₀ H vs Q E hr h => ?_)
  · obtain ⟨_, _, rfl, _⟩ := h
    rfl
  · obtain ⟨a, d, rfl, a0, a1, d0, d1, q⟩ := h
    refine ⟨_, (pss_cons (ps_set (i := 2) sc_law_stir.nd rfl (by first | exact Or.inl rfl | exact Or.inr rfl) (pe_op op_mod (pe_op op_add (pe_op op_add (pe_op op_mul (pv 0) pe_int) (pe_op op_mul (pv 1) pe_int)) pe_int) pe_int))
    (pss_cons (ps_set (i := 3) sc_law_stir.nd rfl (by first | exact Or.inl rfl | exact Or.inr rfl) (pe_op op_mod (pe_op op_mul (pv 2) (pv 2)) pe_int))
    (pss_one (ps_ret (pe_op op_fdiv (pe_op op_mod (pe_op op_add (pe_op op_add (pe_op op_mul (pv 3) pe_int) (pe_op op_mul (pe_op op_mul (pv 1) (pv 1)) pe_int)) (pe_op op_fdiv (pv 2) pe_int)) pe_int) pe_int))))), ?_⟩
    refine ⟨_, rfl, _, _, rfl, rfl, .inr ⟨by decide, by decide⟩, _, rfl, _, _, rfl, rfl, .inr ⟨by decide, by decide⟩, _, _, rfl, rfl, _, _, rfl, rfl, _, _, rfl, rfl, (by show (0 : Int) < _; decide), ?_⟩
    have e0 := Int.emod_nonneg (a * 998244353 + d * 1000000007 + 5) (b := 2305843009213693951) (by decide)
    have e1 := Int.emod_lt_of_pos (a * 998244353 + d * 1000000007 + 5) (b := 2305843009213693951) (by decide)
    generalize (a * 998244353 + d * 1000000007 + 5) % 2305843009213693951 = one at *
    refine ⟨_, rfl, _, rfl, _, _, rfl, rfl, .inl ⟨by omega, by omega⟩, _, _, rfl, rfl, (by show (0 : Int) < _; decide), ?_⟩
    refine ⟨_, rfl, _, _, rfl, rfl, .inr ⟨by decide, by decide⟩, _, rfl, _, rfl, _, _, rfl, rfl, .inl ⟨by omega, by omega⟩, _, _, rfl, rfl, .inr ⟨by decide, by decide⟩, _, _, rfl, rfl, _, rfl, _, _, rfl, rfl, ⟨by decide, by decide⟩, _, _, rfl, rfl, _, _, rfl, rfl, (by show (0 : Int) < _; decide), _, _, rfl, rfl, ⟨by decide, by decide⟩, q _⟩
/-! _law_draw: slots 0:bag 1:bound 2:found 3:cell -/
abbrev s_law_draw : Stmt := topS 36
theorem sc_law_draw : FnScope ["bag", "bound", "found", "cell"] ["bag", "bound"] (defScope s_law_draw) := ⟨rfl, rfl, rfl, by decide +kernel, rfl, by decide +kernel, by decide +kernel⟩
def sp_law_draw : Sp := fun vs H Q _ => ∃ (p cl : Addr) (n : Nat) (m : Int), vs = [.ref p, .int m] ∧ Bag H p cl n ∧ n + 1 ≤ 1000000000000000 ∧ 1 ≤ m ∧ m.natAbs < 2 ^ 8000 ∧ ∀ H' r, But p H H' → Bag H' p cl (n + 1) → 0 ≤ r → r < m → Q (.int r) H'
theorem ok_law_draw (D : Df K mg "_law_draw" s_law_draw) (T : Tx mg) (G_law_stir : Has P w K mg base 1 "_law_stir" ["number", "place"] sp_law_stir) : Has P w K mg base 2 "_law_draw" ["bag", "bound"] sp_law_draw := by
  refine has_of D sc_law_draw (fun _ _ _ _ _ _ us hl => match us, hl with | [_, _], _ => rfl) (fun vs H Q E h => ?_) (fun f cdv A outer s₀ H vs Q E hr h => ?_)
  · obtain ⟨_, _, _, _, rfl, _⟩ := h
    rfl
  · obtain ⟨p, cl, n, m, rfl, z, nb, m1, m2, q⟩ := h
    have z0 := z
    have cp := z.cl_ne
    obtain ⟨⟨ns, i, r, d, t⟩, hp, hc, l63, i0, i1, r0, d0, d1, t0, t1⟩ := z
    have hp : H p = some (.lst [.ref cl, .int i, .int r, .int d, .int t]) := hp
    have hc : H cl = some (.lst (ns.map V.int)) := hc
    have l63 : ns.length ≤ 63 := l63
    have i0 : 0 ≤ i := i0
    have i1 : i ≤ ns.length := i1
    have r0 : 0 ≤ r := r0
    have d0 : 0 ≤ d := d0
    have d1 : d ≤ n := d1
    have t0 : 0 ≤ t := t0
    have t1 : t < 2305843009213693951 := t1
    have e0 : ∀ x : Int, 0 ≤ x % m := fun x => Int.emod_nonneg _ (by omega)
    have e1 : ∀ x : Int, x % m < m := fun x => Int.emod_lt_of_pos _ (by omega)
    refine ⟨_, (pss_cons (ps_if (pt_cmpR op_eq (pv 1) pe_int (nomark _)) (pss_one (ps_ret pe_int)) pss_nil)
    (pss_cons (ps_asg (pe_op op_add (pe_ix ix_list (pv 0) pe_int (fun _ _ => rfl)) pe_int) (pg_sub (pv 0) pe_int set_list))
    (pss_cons (ps_if (PW.pt (pw_and (pt_cmpR op_lt (pe_ix ix_list (pv 0) pe_int (fun _ _ => rfl)) pe_int (nomark _)) (pw_and1 (pt_cmpR op_eq (pe_ix ix_list (pv 0) pe_int (fun _ _ => rfl)) (pe_callB call_len_seq (by rfl) T.n_len (by decide +kernel) (pa_cons (pe_ix ix_list (pv 0) pe_int (fun _ _ => rfl)) pa_nil)) (nomark _))))) (pss_one (ps_ret (pe_op op_mod (pe_callH G_law_stir (hr.mono (by omega)) (by rfl) (pa_cons (pe_ix ix_list (pv 0) pe_int (fun _ _ => rfl)) (pa_cons (pe_ix ix_list (pv 0) pe_int (fun _ _ => rfl)) pa_nil))) (pv 1)))) pss_nil)
    (C8.pss_cut (ps_if (pt_cmpR op_lt (pe_ix ix_list (pv 0) pe_int (fun _ _ => rfl)) pe_int (nomark _)) (pss_cons (ps_set (i := 3) sc_law_draw.nd rfl (by first | exact Or.inl rfl | exact Or.inr rfl) (pe_ix ix_list (pe_ix ix_list (pv 0) pe_int (fun _ _ => rfl)) (pe_ix ix_list (pv 0) pe_int (fun _ _ => rfl)) (fun _ _ => rfl)))
    (pss_cons (ps_asg (pe_op op_add (pe_ix ix_list (pv 0) pe_int (fun _ _ => rfl)) pe_int) (pg_sub (pv 0) pe_int set_list))
    (pss_cons (ps_if (pt_cmpR op_lt (pv 3) (pe_op op_pow pe_int pe_int) (nomark _)) (pss_one (ps_ret (pe_op op_mod (pe_callH G_law_stir (hr.mono (by omega)) (by rfl) (pa_cons (pe_op op_mod (pv 3) pe_int) (pa_cons (pe_ix ix_list (pv 0) pe_int (fun _ _ => rfl)) pa_nil))) (pv 1)))) pss_nil)
    (pss_one (ps_asg (pe_op op_sub (pv 3) (pe_op op_pow pe_int pe_int)) (pg_sub (pv 0) pe_int set_list)))))) pss_nil)
    (pss_cons (ps_set (i := 2) sc_law_draw.nd rfl (by first | exact Or.inl rfl | exact Or.inr rfl) (pe_op op_mod (pe_ix ix_list (pv 0) pe_int (fun _ _ => rfl)) (pv 1)))
    (pss_cons (ps_asg (pe_op op_fdivW (pe_ix ix_list (pv 0) pe_int (fun _ _ => rfl)) (pv 1)) (pg_sub (pv 0) pe_int set_list))
    (pss_one (ps_ret (pv 2))))))))), ?_⟩
    refine ⟨_, rfl, rfl, _, rfl, ite2 (fun _ => ?_) (fun _ => ?_)⟩
    · exact q _ _ But.refl (z0.mono (Nat.le_succ _)) (Int.le_refl _) (by omega)
    refine ⟨_, rfl, p, _, 3, _, rfl, rfl, .of hp, at53, _, _, rfl, rfl, _, rfl, p, _, 3, 3, rfl, rfl, hp, rfl, ?_⟩
    have B1 : But p H (upd H p (.lst [.ref cl, .int i, .int r, .int (d + 1), .int t])) := but_upd
    have hp1 : (upd H p (.lst [.ref cl, .int i, .int r, .int (d + 1), .int t])) p = some (.lst [.ref cl, .int i, .int r, .int (d + 1), .int t]) := upd_same
    have hc1 := B1 _ _ cp hc
    show tSeq _ _ _ _ (upd H p (.lst [.ref cl, .int i, .int r, .int (d + 1), .int t]))
    generalize upd H p (.lst [.ref cl, .int i, .int r, .int (d + 1), .int t]) = H1 at *
    have lm : (ns.map V.int).length = ns.length := List.length_map ..
    have mk : ∀ (H' : Hp) (i' r' : Int), But p H1 H' → H' p = some (.lst [.ref cl, .int i', .int r', .int (d + 1), .int t]) → 0 ≤ i' → i' ≤ ns.length → 0 ≤ r' → But p H H' ∧ Bag H' p cl (n + 1) := fun H' i' r' b hb j0 j1 k0 =>
      ⟨B1.trans b, ⟨ns, i', r', d + 1, t⟩, hb, b _ _ cp hc1, l63, j0, j1, k0, by show 0 ≤ d + 1; omega, by show d + 1 ≤ ((n + 1 : Nat) : Int); omega, t0, t1⟩
    have out : ∀ (H' : Hp) (i' r' x : Int), But p H1 H' → H' p = some (.lst [.ref cl, .int i', .int r', .int (d + 1), .int t]) → 0 ≤ i' → i' ≤ ns.length → 0 ≤ r' → Q (.int (x % m)) H' := fun H' i' r' x b hb j0 j1 k0 => by
      obtain ⟨k1, k2⟩ := mk H' i' r' b hb j0 j1 k0
      exact q _ _ k1 k2 (e0 x) (e1 x)
    refine ⟨_, rfl, p, _, 2, _, rfl, rfl, .of hp1, at52, _, _, rfl, rfl, _, rfl, ?_⟩
    have rest : ∀ (H2 : Hp) (i' r' : Int), But p H1 H2 → H2 p = some (.lst [.ref cl, .int i', .int r', .int (d + 1), .int t]) → 0 ≤ i' → i' ≤ ns.length → 0 ≤ r' →
        ∀ H3, H3 = upd H2 p (.lst [.ref cl, .int i', .int (r' / m), .int (d + 1), .int t]) → Q (.int (r' % m)) H3 := fun H2 i' r' b hb j0 j1 k0 H3 e3 => by
      subst e3
      exact out _ i' (r' / m) r' (b.trans but_upd) upd_same j0 j1 (Int.ediv_nonneg k0 (by omega))
    by_cases c2 : r < 2
    · refine iteP (decide_eq_true c2) ⟨_, rfl, p, _, 1, _, rfl, rfl, .of hp1, at51, _, rfl, p, _, 0, _, rfl, rfl, .of hp1, at50, cl, _, rfl, .inl (.of hc1), rfl, _, rfl, ?_⟩
      rw [lm]
      by_cases ci : i = ns.length
      · refine iteP (decide_eq_true (by rw [ci])) ⟨_, rfl, p, _, 4, _, rfl, rfl, .of hp1, at54, _, rfl, p, _, 3, _, rfl, rfl, .of hp1, at53, t, d + 1, rfl, t0, t1, by omega, by omega, fun x => ⟨_, rfl, _, _, rfl, rfl, (by omega), ?_⟩⟩
        exact out _ i r x But.refl hp1 i0 i1 r0
      · have ci2 : i < ns.length := by omega
        refine iteN (decide_eq_false (fun z => ci (V.int.inj z))) ?_
        obtain ⟨c, ec⟩ : ∃ c, ns[i.toNat]? = some c := ⟨_, List.getElem?_eq_getElem (by omega)⟩
        have eci : atI (ns.map V.int) i = some (.int c) := atI_ofB i0 (by rw [List.getElem?_map, ec]; rfl)
        refine ⟨fun σ' H' => ∃ i' r' y3, σ' = [some (.ref p), some (.int m), none, y3] ∧ But p H1 H' ∧ H' p = some (.lst [.ref cl, .int i', .int r', .int (d + 1), .int t]) ∧ 0 ≤ i' ∧ i' ≤ ns.length ∧ 0 ≤ r', ?_, fun σ' H2 hM => ?_⟩
        · refine ⟨_, rfl, p, _, 2, _, rfl, rfl, .of hp1, at52, _, _, rfl, rfl, _, rfl, iteP (decide_eq_true c2) ?_⟩
          refine ⟨_, rfl, p, _, 0, _, rfl, rfl, .of hp1, at50, _, rfl, p, _, 1, _, rfl, rfl, .of hp1, at51, cl, _, i, _, rfl, rfl, .of hc1, eci, ?_⟩
          refine ⟨_, rfl, p, _, 1, _, rfl, rfl, .of hp1, at51, _, _, rfl, rfl, _, rfl, p, _, 1, 1, rfl, rfl, hp1, rfl, ?_⟩
          have B2 : But p H1 (upd H1 p (.lst [.ref cl, .int (i + 1), .int r, .int (d + 1), .int t])) := but_upd
          have hp2 : (upd H1 p (.lst [.ref cl, .int (i + 1), .int r, .int (d + 1), .int t])) p = some (.lst [.ref cl, .int (i + 1), .int r, .int (d + 1), .int t]) := upd_same
          show tSeq _ _ _ _ (upd H1 p (.lst [.ref cl, .int (i + 1), .int r, .int (d + 1), .int t]))
          generalize upd H1 p (.lst [.ref cl, .int (i + 1), .int r, .int (d + 1), .int t]) = H2 at *
          refine ⟨_, rfl, _, _, rfl, rfl, ⟨by decide, by decide, by decide⟩, _, _, rfl, rfl, _, rfl, ite2 (fun c3 => ?_) (fun c3 => ?_)⟩
          · refine ⟨_, rfl, _, _, rfl, rfl, (by show (0 : Int) < _; decide), _, rfl, p, _, 3, _, rfl, rfl, .of hp2, at53, _, d + 1, rfl, Int.emod_nonneg _ (by decide), Int.emod_lt_of_pos _ (by decide), by omega, by omega, fun x => ⟨_, rfl, _, _, rfl, rfl, (by omega), ?_⟩⟩
            exact out _ (i + 1) r x B2 hp2 (by omega) (by omega) r0
          · have c3 : ¬ c < (10 : Int) ^ ((18 : Int).toNat) := fun z => c3 (decide_eq_true z)
            refine ⟨_, rfl, _, _, rfl, rfl, ⟨by decide, by decide, by decide⟩, _, _, rfl, rfl, _, rfl, p, _, 2, 2, rfl, rfl, hp2, rfl, ?_⟩
            exact ⟨i + 1, _, _, rfl, B2.trans but_upd, upd_same, by omega, by omega, by omega⟩
        · obtain ⟨i', r', y3, rfl, b2, hp2, j0, j1, k0⟩ := hM
          refine ⟨_, rfl, p, _, 2, _, rfl, rfl, .of hp2, at52, _, rfl, _, _, rfl, rfl, (by omega), ?_⟩
          refine ⟨_, rfl, p, _, 2, _, rfl, rfl, .of hp2, at52, _, rfl, _, _, rfl, rfl, wide_div (by omega) m2 (by decide) (by decide), _, rfl, p, _, 2, 2, rfl, rfl, hp2, rfl, ?_⟩
          exact ⟨_, rfl, rest H2 i' r' b2 hp2 j0 j1 k0 _ rfl⟩
    · refine iteN (decide_eq_false c2) ?_
      refine ⟨fun σ' H' => σ' = [some (.ref p), some (.int m), none, none] ∧ H' = H1, ?_, fun σ' H2 hM => ?_⟩
      · exact ⟨_, rfl, p, _, 2, _, rfl, rfl, .of hp1, at52, _, _, rfl, rfl, _, rfl, iteN (decide_eq_false c2) ⟨rfl, rfl⟩⟩
      · obtain ⟨rfl, rfl⟩ := hM
        refine ⟨_, rfl, p, _, 2, _, rfl, rfl, .of hp1, at52, _, rfl, _, _, rfl, rfl, (by omega), ?_⟩
        refine ⟨_, rfl, p, _, 2, _, rfl, rfl, .of hp1, at52, _, rfl, _, _, rfl, rfl, wide_div (by omega) m2 (by decide) (by decide), _, rfl, p, _, 2, 2, rfl, rfl, hp1, rfl, ?_⟩
        exact ⟨_, rfl, rest _ i r But.refl hp1 i0 i1 r0 _ rfl⟩
end
end UP

set_option Elab.async false
set_option linter.all false
set_option maxRecDepth 100000
set_option maxHeartbeats 4000000
set_option pp.maxSteps 500
/-! ### dicts whose keys are None and tuples, at the machine's level -/
namespace UP.Dx
open PySem
open Sem (wp)
/-- the value v is the key k, and is None or a tuple -/
structure KeyAt (h : Heap) (k : NestedKey) (v : Value) : Prop where
  tell : NestedIs h k v
  low : k.depth ≤ 8
  form : v = .none ∨ ∃ a, v = .ref a
theorem KeyAt.one {h : Heap} {v : Value} {x y : NestedKey} (p : KeyAt h x v) (q : KeyAt h y v) : x = y := NestedIs.inj x y v p.tell q.tell
/-- the entries es have the keys ks -/
structure Ents (w : World) (h : Heap) (es : Array DictEntry) (ks : List NestedKey) : Prop where
  len : ks.length = es.size
  ent : ∀ (i : Nat) (k : NestedKey), ks[i]? = some k → ∃ e, es[i]? = some e ∧ e.hash = k.hash w ∧ KeyAt h k e.key
  once : ks.Nodup
def place (ks : List NestedKey) (k : NestedKey) : Option Nat := ks.findIdx? fun x => decide (x = k)
theorem place_at {ks : List NestedKey} (nd : ks.Nodup) {i : Nat} {k : NestedKey} (h : ks[i]? = some k) : place ks k = some i := by
  obtain ⟨l, e⟩ := List.getElem?_eq_some_iff.mp h
  refine List.findIdx?_eq_some_iff_getElem.mpr ⟨l, decide_eq_true e, fun j hj z => ?_⟩
  have ej : ks[j]'(Nat.lt_trans hj l) = ks[i] := (of_decide_eq_true z).trans e.symm
  exact absurd ((List.getElem_inj nd).mp ej) (Nat.ne_of_lt hj)
theorem place_no {ks : List NestedKey} {k : NestedKey} (h : ∀ i : Nat, ks[i]? ≠ some k) : place ks k = none := by
  refine List.findIdx?_eq_none_iff.mpr fun x hx => decide_eq_false fun e => ?_
  obtain ⟨i, hi⟩ := List.getElem?_of_mem hx
  exact h i (by rw [hi, e])
theorem place_ok {ks : List NestedKey} {i : Nat} {k : NestedKey} (h : place ks k = some i) : ks[i]? = some k := by
  obtain ⟨l, e, _⟩ := List.findIdx?_eq_some_iff_getElem.mp h
  rw [List.getElem?_eq_getElem l, of_decide_eq_true e]
theorem place_none {ks : List NestedKey} {k : NestedKey} (h : place ks k = none) : k ∉ ks := fun hm => by
  have := List.findIdx?_eq_none_iff.mp h k hm
  rw [decide_eq_true rfl] at this
  cases this
section
variable {prog : Program} {w : World} {A : Around} {E : Value → Shared → Prop} {s : Shared}
theorem hash_of {k : NestedKey} {v : Value} {Q : Int → Shared → Prop} (hu : A.units + 8 < cLine) (hk : KeyAt s.heap k v) (q : Q (k.hash w) { s with toks := s.toks + k.draws }) : wpAny (model prog w) A (pyHash v) Q E s :=
  pyHash_key k v A s Q hk.tell (Nat.lt_of_le_of_lt (Nat.add_le_add_left hk.low _) hu) q
theorem same_of {x y : NestedKey} {a b : Value} {Q : Bool → Shared → Prop} (hu : A.units + 8 < cLine) (hx : KeyAt s.heap x a) (hy : KeyAt s.heap y b) (q : Q (decide (x = y)) s) : wpAny (model prog w) A (eqBool a b) Q E s := by
  refine eqAt_key x y A s a b hx.tell hy.tell (Nat.lt_of_le_of_lt (Nat.add_le_add_left (Nat.le_trans (Nat.min_le_left _ _) hx.low) _) hu) prog w E Q ?_
  rw [← NestedKey.decide_eq]
  exact q
theorem still_of {k : NestedKey} {v : Value} {Q : Bool → Shared → Prop} (hk : KeyAt s.heap k v) (q : Q true s) : wpAny (model prog w) A (eqIsQuiet 8 v) Q E s := quiet_key k v 8 s hk.tell hk.low A E Q q
/-- no key of these tells that it is compared -/
theorem mute {v : Value} {k : NestedKey} {l : List Value} {Q : Bool → Shared → Prop} (hk : KeyAt s.heap k v) (hl : ∀ u ∈ l, ∃ y, KeyAt s.heap y u) (q : Q false s) : wpAny (model prog w) A (tableMayTell v l) Q E s := by
  unfold tableMayTell
  split
  · exact wpAny_pure q
  refine wpAny_bind (still_of hk ?_)
  simp only [Bool.not_true, Bool.false_eq_true, if_false]
  refine wpAny_bind (wpAny_forIn_list _ (fun todo r t => (t = s ∧ r = (none, ())) ∧ ∀ u ∈ todo, ∃ y, KeyAt s.heap y u) _ ?_ ?_ _ _ ⟨⟨rfl, rfl⟩, hl⟩)
  · rintro u todo r t ⟨⟨rfl, rfl⟩, ok⟩
    obtain ⟨y, hy⟩ := ok u (List.mem_cons_self ..)
    refine wpAny_bind (still_of hy ?_)
    simp only [Bool.not_true, Bool.false_eq_true, if_false]
    exact wpAny_pure ⟨⟨rfl, rfl⟩, fun z hz => ok z (List.mem_cons_of_mem _ hz)⟩
  · rintro r t ⟨⟨rfl, rfl⟩, _⟩
    exact wpAny_pure q
variable {d : Addr} {v : Value} {o : Obj} {es : Array DictEntry} {ep : Nat} {ks : List NestedKey} {k : NestedKey}
theorem Ents.key {i : Nat} {e : DictEntry} (hE : Ents w s.heap es ks) (hi : es[i]? = some e) : ∃ y, ks[i]? = some y ∧ e.hash = y.hash w ∧ KeyAt s.heap y e.key := by
  have l : i < ks.length := by rw [hE.len]; exact (Array.getElem?_eq_some_iff.mp hi).1
  obtain ⟨e', h1, h2, h3⟩ := hE.ent i _ (List.getElem?_eq_getElem l)
  rw [hi] at h1
  cases h1
  exact ⟨_, List.getElem?_eq_getElem l, h2, h3⟩
theorem in_places (hE : Ents w s.heap es ks) {i : Nat} (h : ks[i]? = some k) : i ∈ placesWithHash es.size (fun i => es[i]?.map (·.hash)) (k.hash w) := by
  obtain ⟨e, h1, h2, _⟩ := hE.ent i k h
  unfold placesWithHash
  refine List.mem_filter.mpr ⟨List.mem_range.mpr (Array.getElem?_eq_some_iff.mp h1).1, ?_⟩
  show (es[i]?.map (·.hash) == some (NestedKey.hash w k)) = true
  rw [h1, Option.map_some, h2]
  exact beq_self_eq_true _
theorem places_lt {i : Nat} {n : Nat} {f : Nat → Option Int} {x : Int} (h : i ∈ placesWithHash n f x) : i < n ∧ f i = some x := by
  unfold placesWithHash at h
  obtain ⟨h1, h2⟩ := List.mem_filter.mp h
  exact ⟨List.mem_range.mp h1, eq_of_beq h2⟩
/-- what is known of the places gone through: none is k's, or p is -/
def Seen (ks : List NestedKey) (k : NestedKey) (gone : List Nat) : Option Nat → Prop
  | none => ∀ p ∈ gone, ks[p]? ≠ some k
  | some p => p ∈ gone ∧ ks[p]? = some k
theorem Seen.more {gone : List Nat} {hit : Option Nat} {x : Nat} (h : Seen ks k gone hit) (n : ks[x]? ≠ some k) : Seen ks k (gone ++ [x]) hit := by
  cases hit with
  | some p => exact ⟨List.mem_append_left _ h.1, h.2⟩
  | none =>
    intro p hp
    rcases List.mem_append.mp hp with z | z
    · exact h p z
    · rw [List.mem_singleton.mp z]
      exact n
theorem Seen.last (hE : Ents w s.heap es ks) {hit : Option Nat} (h : Seen ks k (placesWithHash es.size (fun i => es[i]?.map (·.hash)) (k.hash w)) hit) : place ks k = hit := by
  cases hit with
  | some p => exact place_at hE.once h.2
  | none => exact place_no fun i hi => h i (in_places hE hi) hi
theorem plain_find {Q : Option Nat → Shared → Prop} (hu : A.units + 8 < cLine) (hk : KeyAt s.heap k v) (ho : s.heap.get? d = some o) (hd : o.data = .dict es ep) (hE : Ents w s.heap es ks) (q : Q (place ks k) s) :
    wpAny (model prog w) A (dictWalkPlain d v (k.hash w) es (placesWithHash es.size (fun i => es[i]?.map (·.hash)) (k.hash w))) Q E s := by
  have lt : ∀ p ∈ placesWithHash es.size (fun i => es[i]?.map (·.hash)) (k.hash w), p < es.size := fun p hp => (places_lt hp).1
  have fin := fun hit => Seen.last (k := k) (hit := hit) hE
  unfold dictWalkPlain
  generalize placesWithHash es.size (fun i => es[i]?.map (·.hash)) (k.hash w) = ps at *
  refine wpAny_bind (wpAny_forIn_list _ (fun todo b t => (t = s ∧ b = (none, ())) ∧ ∃ gone, gone ++ todo = ps ∧ Seen ks k gone none) _ ?_ ?_ _ _ ⟨⟨rfl, rfl⟩, [], rfl, fun p hp => by cases hp⟩)
  · rintro x todo b t ⟨⟨rfl, rfl⟩, gone, eg, hs⟩
    have xl := lt x (by rw [← eg]; exact List.mem_append_right _ (List.mem_cons_self ..))
    obtain ⟨y, hy, h1, h2⟩ := hE.key (Array.getElem?_eq_getElem xl)
    have nxt : y ≠ k → ∃ gone, gone ++ todo = ps ∧ Seen ks k gone none := fun n => ⟨gone ++ [x], by rw [List.append_assoc]; exact eg, hs.more fun z => n (by rw [hy] at z; exact Option.some.inj z)⟩
    simp only [Array.getElem?_eq_getElem xl]
    split
    · refine wpAny_bind (wpAny_dictEpoch ho hd (wpAny_bind (same_of hu h2 hk (wpAny_bind (wpAny_dictEpoch ho hd ?_)))))
      simp only [bne_self_eq_false, Bool.false_eq_true, if_false]
      by_cases e : y = k
      · rw [decide_eq_true e]
        rw [place_at hE.once (by rw [hy, e])] at q
        exact wpAny_bind (wpAny_rule (wpAny_pure (wpAny_pure q)))
      · rw [decide_eq_false e]
        exact wpAny_bind (wpAny_rule (wpAny_pure ⟨⟨rfl, rfl⟩, nxt e⟩))
    · next n => exact wpAny_pure ⟨⟨rfl, rfl⟩, nxt fun e => n (by rw [h1, e]; exact beq_self_eq_true _)⟩
  · rintro b t ⟨⟨rfl, rfl⟩, gone, eg, hs⟩
    rw [List.append_nil] at eg
    subst eg
    refine wpAny_pure ?_
    rw [fin none hs] at q
    exact q
theorem find_k {Q : Option Nat → Shared → Prop} (hu : A.units + 8 < cLine) (hk : KeyAt s.heap k v) (ho : s.heap.get? d = some o) (hd : o.data = .dict es ep) (hE : Ents w s.heap es ks) (q : Q (place ks k) s) :
    wpAny (model prog w) A (dictFind d v (k.hash w)) Q E s := by
  have pf := plain_find (E := E) (prog := prog) hu hk ho hd hE q
  have lt : ∀ p ∈ placesWithHash es.size (fun i => es[i]?.map (·.hash)) (k.hash w), p < es.size := fun p hp => (places_lt hp).1
  have fin := fun hit => Seen.last (k := k) (hit := hit) hE
  have nd : (placesWithHash es.size (fun i => es[i]?.map (·.hash)) (k.hash w)).Nodup := List.nodup_range.filter _
  have st : ∀ u ∈ (placesWithHash es.size (fun i => es[i]?.map (·.hash)) (k.hash w)).filterMap (fun i => es[i]?.map (·.key)), ∃ y, KeyAt s.heap y u := fun u hu' => by
    obtain ⟨i, hi, e1⟩ := List.mem_filterMap.mp hu'
    have il := lt i hi
    rw [Array.getElem?_eq_getElem il, Option.map_some] at e1
    cases e1
    obtain ⟨y, _, _, h2⟩ := hE.key (Array.getElem?_eq_getElem il)
    exact ⟨y, h2⟩
  unfold dictFind
  try with_reducible refine wpAny_holding ?_
  refine wpAny_bind (wpAny_dictEntries ho hd ?_)
  generalize hps : placesWithHash es.size (fun i => es[i]?.map (·.hash)) (k.hash w) = ps at *
  rcases hk.form with ev | ⟨a, ev⟩
  · subst ev
    dsimp only
    by_cases c1 : (Value.none :: List.filterMap (fun i => es[i]?.map (·.key)) ps).all carriedByValue = true
    · rw [if_pos c1]
      exact pf
    rw [if_neg c1]
    by_cases c2 : (List.filterMap (fun i => es[i]?.map (·.key)) ps == [Value.none]) = true
    · rw [if_pos c2]
      refine wpAny_bind (wpAny_pure ?_)
      rw [if_neg (show ¬ (false && _) = true by rw [Bool.false_and]; exact Bool.false_ne_true)]
      refine wpAny_bind (wpAny_forIn_list _ (fun todo b t => t = s ∧ ∃ hit gone, b = (none, hit) ∧ gone ++ todo = ps ∧ Seen ks k gone hit) _ ?_ ?_ _ _ ⟨rfl, none, [], rfl, rfl, fun p hp => by cases hp⟩)
      · rintro x todo b t ⟨rfl, hit, gone, rfl, eg, hs⟩
        have xl := lt x (by rw [← eg]; exact List.mem_append_right _ (List.mem_cons_self ..))
        have eg2 : (gone ++ [x]) ++ todo = ps := by rw [List.append_assoc]; exact eg
        obtain ⟨y, hy, h1, h2⟩ := hE.key (Array.getElem?_eq_getElem xl)
        simp only [Array.getElem?_eq_getElem xl]
        split
        · refine wpAny_bind (wpAny_dictEpoch ho hd (wpAny_bind (same_of hu h2 hk (wpAny_bind (wpAny_dictEpoch ho hd ?_)))))
          rw [if_neg (show ¬ (ep != ep) = true by rw [bne_self_eq_false]; exact Bool.false_ne_true)]
          by_cases e : y = k
          · have hx : ks[x]? = some k := by rw [hy, e]
            rw [decide_eq_true e]
            cases hit with
            | some p =>
              have px := place_at hE.once hs.2
              rw [place_at hE.once hx] at px
              cases px
              rw [← eg, List.nodup_append] at nd
              exact absurd rfl (nd.2.2 _ hs.1 _ (List.mem_cons_self ..))
            | none =>
              simp only [if_true, Option.isSome_none, Bool.false_eq_true, if_false]
              refine wpAny_bind (wpAny_rule ?_)
              split
              · rw [place_at hE.once hx] at q
                exact wpAny_pure (wpAny_pure q)
              · exact wpAny_pure ⟨rfl, some x, gone ++ [x], rfl, eg2, List.mem_append_right _ (List.mem_cons_self ..), hx⟩
          · rw [decide_eq_false e]
            simp only [Bool.false_eq_true, if_false]
            exact wpAny_bind (wpAny_rule (wpAny_pure ⟨rfl, hit, gone ++ [x], rfl, eg2, hs.more fun z => e (by rw [hy] at z; exact Option.some.inj z)⟩))
        · next n => exact wpAny_pure ⟨rfl, hit, gone ++ [x], rfl, eg2, hs.more fun z => n (by rw [hy] at z; rw [h1, Option.some.inj z]; exact beq_self_eq_true _)⟩
      · rintro b t ⟨rfl, hit, gone, rfl, eg, hs⟩
        rw [List.append_nil] at eg
        subst eg
        rw [fin hit hs] at q
        exact wpAny_pure q
    · rw [if_neg c2]
      refine wpAny_bind (mute hk st ?_)
      rw [if_neg (show ¬ (false && _) = true by rw [Bool.false_and]; exact Bool.false_ne_true)]
      refine wpAny_bind (wpAny_forIn_list _ (fun todo b t => t = s ∧ ∃ hit gone, b = (none, hit) ∧ gone ++ todo = ps ∧ Seen ks k gone hit) _ ?_ ?_ _ _ ⟨rfl, none, [], rfl, rfl, fun p hp => by cases hp⟩)
      · rintro x todo b t ⟨rfl, hit, gone, rfl, eg, hs⟩
        have xl := lt x (by rw [← eg]; exact List.mem_append_right _ (List.mem_cons_self ..))
        have eg2 : (gone ++ [x]) ++ todo = ps := by rw [List.append_assoc]; exact eg
        obtain ⟨y, hy, h1, h2⟩ := hE.key (Array.getElem?_eq_getElem xl)
        simp only [Array.getElem?_eq_getElem xl]
        split
        · refine wpAny_bind (wpAny_dictEpoch ho hd (wpAny_bind (same_of hu h2 hk (wpAny_bind (wpAny_dictEpoch ho hd ?_)))))
          rw [if_neg (show ¬ (ep != ep) = true by rw [bne_self_eq_false]; exact Bool.false_ne_true)]
          by_cases e : y = k
          · have hx : ks[x]? = some k := by rw [hy, e]
            rw [decide_eq_true e]
            cases hit with
            | some p =>
              have px := place_at hE.once hs.2
              rw [place_at hE.once hx] at px
              cases px
              rw [← eg, List.nodup_append] at nd
              exact absurd rfl (nd.2.2 _ hs.1 _ (List.mem_cons_self ..))
            | none =>
              simp only [if_true, Option.isSome_none, Bool.false_eq_true, if_false]
              refine wpAny_bind (wpAny_rule ?_)
              split
              · rw [place_at hE.once hx] at q
                exact wpAny_pure (wpAny_pure q)
              · exact wpAny_pure ⟨rfl, some x, gone ++ [x], rfl, eg2, List.mem_append_right _ (List.mem_cons_self ..), hx⟩
          · rw [decide_eq_false e]
            simp only [Bool.false_eq_true, if_false]
            exact wpAny_bind (wpAny_rule (wpAny_pure ⟨rfl, hit, gone ++ [x], rfl, eg2, hs.more fun z => e (by rw [hy] at z; exact Option.some.inj z)⟩))
        · next n => exact wpAny_pure ⟨rfl, hit, gone ++ [x], rfl, eg2, hs.more fun z => n (by rw [hy] at z; rw [h1, Option.some.inj z]; exact beq_self_eq_true _)⟩
      · rintro b t ⟨rfl, hit, gone, rfl, eg, hs⟩
        rw [List.append_nil] at eg
        subst eg
        rw [fin hit hs] at q
        exact wpAny_pure q
  · subst ev
    dsimp only
    have no : ¬ (es.any fun e => e.key == Value.ref a && e.hash != k.hash w) = true := fun z => by
      obtain ⟨i, hi, z⟩ := Array.any_eq_true.mp z
      obtain ⟨y, _, h1, h2⟩ := hE.key (Array.getElem?_eq_getElem hi)
      rw [Bool.and_eq_true] at z
      rw [eq_of_beq z.1] at h2
      rw [h1, h2.one hk] at z
      simp at z
    rw [if_neg (show ¬ (Value.ref a :: List.filterMap (fun i => es[i]?.map (·.key)) ps).all carriedByValue = true by rw [List.all_cons]; exact Bool.false_ne_true), if_neg no]
    by_cases c2 : (List.filterMap (fun i => es[i]?.map (·.key)) ps == [Value.ref a]) = true
    · rw [if_pos c2]
      refine wpAny_bind (wpAny_pure ?_)
      rw [if_neg (show ¬ (false && _) = true by rw [Bool.false_and]; exact Bool.false_ne_true)]
      refine wpAny_bind (wpAny_forIn_list _ (fun todo b t => t = s ∧ ∃ hit gone, b = (none, hit) ∧ gone ++ todo = ps ∧ Seen ks k gone hit) _ ?_ ?_ _ _ ⟨rfl, none, [], rfl, rfl, fun p hp => by cases hp⟩)
      · rintro x todo b t ⟨rfl, hit, gone, rfl, eg, hs⟩
        have xl := lt x (by rw [← eg]; exact List.mem_append_right _ (List.mem_cons_self ..))
        have eg2 : (gone ++ [x]) ++ todo = ps := by rw [List.append_assoc]; exact eg
        obtain ⟨y, hy, h1, h2⟩ := hE.key (Array.getElem?_eq_getElem xl)
        simp only [Array.getElem?_eq_getElem xl]
        split
        · refine wpAny_bind (wpAny_dictEpoch ho hd (wpAny_bind (same_of hu h2 hk (wpAny_bind (wpAny_dictEpoch ho hd ?_)))))
          rw [if_neg (show ¬ (ep != ep) = true by rw [bne_self_eq_false]; exact Bool.false_ne_true)]
          by_cases e : y = k
          · have hx : ks[x]? = some k := by rw [hy, e]
            rw [decide_eq_true e]
            cases hit with
            | some p =>
              have px := place_at hE.once hs.2
              rw [place_at hE.once hx] at px
              cases px
              rw [← eg, List.nodup_append] at nd
              exact absurd rfl (nd.2.2 _ hs.1 _ (List.mem_cons_self ..))
            | none =>
              simp only [if_true, Option.isSome_none, Bool.false_eq_true, if_false]
              refine wpAny_bind (wpAny_rule ?_)
              split
              · rw [place_at hE.once hx] at q
                exact wpAny_pure (wpAny_pure q)
              · exact wpAny_pure ⟨rfl, some x, gone ++ [x], rfl, eg2, List.mem_append_right _ (List.mem_cons_self ..), hx⟩
          · rw [decide_eq_false e]
            simp only [Bool.false_eq_true, if_false]
            exact wpAny_bind (wpAny_rule (wpAny_pure ⟨rfl, hit, gone ++ [x], rfl, eg2, hs.more fun z => e (by rw [hy] at z; exact Option.some.inj z)⟩))
        · next n => exact wpAny_pure ⟨rfl, hit, gone ++ [x], rfl, eg2, hs.more fun z => n (by rw [hy] at z; rw [h1, Option.some.inj z]; exact beq_self_eq_true _)⟩
      · rintro b t ⟨rfl, hit, gone, rfl, eg, hs⟩
        rw [List.append_nil] at eg
        subst eg
        rw [fin hit hs] at q
        exact wpAny_pure q
    · rw [if_neg c2]
      refine wpAny_bind (mute hk st ?_)
      rw [if_neg (show ¬ (false && _) = true by rw [Bool.false_and]; exact Bool.false_ne_true)]
      refine wpAny_bind (wpAny_forIn_list _ (fun todo b t => t = s ∧ ∃ hit gone, b = (none, hit) ∧ gone ++ todo = ps ∧ Seen ks k gone hit) _ ?_ ?_ _ _ ⟨rfl, none, [], rfl, rfl, fun p hp => by cases hp⟩)
      · rintro x todo b t ⟨rfl, hit, gone, rfl, eg, hs⟩
        have xl := lt x (by rw [← eg]; exact List.mem_append_right _ (List.mem_cons_self ..))
        have eg2 : (gone ++ [x]) ++ todo = ps := by rw [List.append_assoc]; exact eg
        obtain ⟨y, hy, h1, h2⟩ := hE.key (Array.getElem?_eq_getElem xl)
        simp only [Array.getElem?_eq_getElem xl]
        split
        · refine wpAny_bind (wpAny_dictEpoch ho hd (wpAny_bind (same_of hu h2 hk (wpAny_bind (wpAny_dictEpoch ho hd ?_)))))
          rw [if_neg (show ¬ (ep != ep) = true by rw [bne_self_eq_false]; exact Bool.false_ne_true)]
          by_cases e : y = k
          · have hx : ks[x]? = some k := by rw [hy, e]
            rw [decide_eq_true e]
            cases hit with
            | some p =>
              have px := place_at hE.once hs.2
              rw [place_at hE.once hx] at px
              cases px
              rw [← eg, List.nodup_append] at nd
              exact absurd rfl (nd.2.2 _ hs.1 _ (List.mem_cons_self ..))
            | none =>
              simp only [if_true, Option.isSome_none, Bool.false_eq_true, if_false]
              refine wpAny_bind (wpAny_rule ?_)
              split
              · rw [place_at hE.once hx] at q
                exact wpAny_pure (wpAny_pure q)
              · exact wpAny_pure ⟨rfl, some x, gone ++ [x], rfl, eg2, List.mem_append_right _ (List.mem_cons_self ..), hx⟩
          · rw [decide_eq_false e]
            simp only [Bool.false_eq_true, if_false]
            exact wpAny_bind (wpAny_rule (wpAny_pure ⟨rfl, hit, gone ++ [x], rfl, eg2, hs.more fun z => e (by rw [hy] at z; exact Option.some.inj z)⟩))
        · next n => exact wpAny_pure ⟨rfl, hit, gone ++ [x], rfl, eg2, hs.more fun z => n (by rw [hy] at z; rw [h1, Option.some.inj z]; exact beq_self_eq_true _)⟩
      · rintro b t ⟨rfl, hit, gone, rfl, eg, hs⟩
        rw [List.append_nil] at eg
        subst eg
        rw [fin hit hs] at q
        exact wpAny_pure q
/-- at d stands a dict with these entries -/
def DictE (w : World) (h : Heap) (d : Addr) (es : Array DictEntry) (ks : List NestedKey) : Prop := ∃ o ep, h.get? d = some o ∧ o.ExactDict ∧ o.data = .dict es ep ∧ Ents w h es ks
theorem DictE.isDict (D : DictE w s.heap d es ks) : s.TypeIs (.ref d) "dict" := by
  obtain ⟨o, _, h1, h2, _⟩ := D
  exact ⟨o, h1, h2.1⟩
def gotE (es : Array DictEntry) (ks : List NestedKey) (k : NestedKey) : Option Value := (place ks k).bind fun i => es[i]?.map (·.val)
theorem look {Q : Option Value → Shared → Prop} (hu : A.units + 8 < cLine) (hk : KeyAt s.heap k v) (D : DictE w s.heap d es ks) (q : Q (gotE es ks k) { s with toks := s.toks + k.draws }) : wpAny (model prog w) A (dictGet d v) Q E s := by
  obtain ⟨o, ep, ho, _, hd, hE⟩ := D
  unfold dictGet
  try with_reducible refine wpAny_holding ?_
  refine wpAny_bind (hash_of hu hk (wpAny_bind (find_k (s := { s with toks := s.toks + k.draws }) hu hk ho hd hE ?_)))
  unfold gotE at q
  cases hp : place ks k with
  | none =>
    rw [hp] at q
    exact wpAny_pure q
  | some i =>
    rw [hp] at q
    exact wpAny_bind (wpAny_dictEntries (s := { s with toks := s.toks + k.draws }) ho hd (wpAny_pure q))
theorem KeyAt.stay {h h' : Heap} {k : NestedKey} {v : Value} (hk : KeyAt h k v) (ho : h.get? d = some o) (hd : o.data = .dict es ep) (sb : Heap.SameBut d h h') : KeyAt h' k v := by
  refine ⟨NestedIs.at (fun b ob l n e1 e2 => ?_) k v hk.tell, hk.low, hk.form⟩
  have nb : b ≠ d := fun z => by
    rw [z, ho] at e1
    cases e1
    rw [hd] at e2
    cases e2
  exact (sb.2 b nb).trans e1
theorem Ents.stay {h h' : Heap} (hE : Ents w h es ks) (ho : h.get? d = some o) (hd : o.data = .dict es ep) (sb : Heap.SameBut d h h') : Ents w h' es ks := by
  refine ⟨hE.len, fun i k hi => ?_, hE.once⟩
  obtain ⟨e, h1, h2, h3⟩ := hE.ent i k hi
  exact ⟨e, h1, h2, h3.stay ho hd sb⟩
theorem Ents.add {h : Heap} {x : Value} (hE : Ents w h es ks) (hk : KeyAt h k v) (n : place ks k = none) : Ents w h (es.push ⟨k.hash w, v, x⟩) (ks ++ [k]) := by
  refine ⟨by rw [List.length_append, Array.size_push, hE.len]; rfl, fun i y hi => ?_, ?_⟩
  · rcases Nat.lt_or_ge i ks.length with l | l
    · rw [List.getElem?_append_left l] at hi
      obtain ⟨e, h1, h2⟩ := hE.ent i y hi
      refine ⟨e, ?_, h2⟩
      rw [Array.getElem?_push, if_neg (by rw [← hE.len]; omega)]
      exact h1
    · rw [List.getElem?_append_right l] at hi
      have e0 : i - ks.length = 0 := by
        have := (List.getElem?_eq_some_iff.mp hi).1
        rw [List.length_singleton] at this
        omega
      rw [e0] at hi
      cases hi
      refine ⟨⟨k.hash w, v, x⟩, ?_, rfl, hk⟩
      rw [Array.getElem?_push, if_pos (by rw [← hE.len]; omega)]
  · refine List.nodup_append.mpr ⟨hE.once, List.nodup_cons.mpr ⟨List.not_mem_nil, List.nodup_nil⟩, fun a ha b hb => ?_⟩
    rw [List.mem_singleton.mp hb]
    exact fun z => place_none n (z ▸ ha)
theorem Ents.over {h : Heap} {i : Nat} {x : Value} (hE : Ents w h es ks) : Ents w h (es.modify i fun e => { e with val := x }) ks := by
  refine ⟨by rw [Array.size_modify]; exact hE.len, fun j y hj => ?_, hE.once⟩
  obtain ⟨e, h1, h2, h3⟩ := hE.ent j y hj
  rw [Array.getElem?_modify, h1]
  by_cases c : i = j
  · rw [if_pos c]
    exact ⟨_, rfl, h2, h3⟩
  · rw [if_neg c]
    exact ⟨_, rfl, h2, h3⟩
/-- the entries behind d[k] = x -/
def putE (w : World) (es : Array DictEntry) (ks : List NestedKey) (k : NestedKey) (v x : Value) : Array DictEntry × List NestedKey := match place ks k with
  | some i => (es.modify i fun e => { e with val := x }, ks)
  | none => (es.push ⟨k.hash w, v, x⟩, ks ++ [k])
theorem store {x : Value} {Q : Unit → Shared → Prop} (hu : A.units + 8 < cLine) (hk : KeyAt s.heap k v) (D : DictE w s.heap d es ks) (hz : es.size ≤ sizeLine)
    (q : ∀ h', DictE w h' d (putE w es ks k v x).1 (putE w es ks k v x).2 → Heap.SameBut d s.heap h' → Q () { s with heap := h', toks := s.toks + k.draws }) : wpAny (model prog w) A (dictSet d v x) Q E s := by
  obtain ⟨o, ep, ho, hc, hd, hE⟩ := D
  unfold dictSet
  try with_reducible refine wpAny_holding ?_
  refine wpAny_bind (hash_of hu hk ?_)
  unfold dictSetHashed
  try with_reducible refine wpAny_holding ?_
  refine wpAny_bind (find_k (s := { s with toks := s.toks + k.draws }) hu hk ho hd hE ?_)
  unfold putE at q
  cases hp : place ks k with
  | some i =>
    rw [hp] at q
    have sb : Heap.SameBut d s.heap (s.heap.update d (Obj.mapDict fun l => l.modify i fun e => { e with val := x })) := Heap.SameBut.update ..
    exact wpAny_bind (wpAny_rule (wpAny_bind (wpAny_updateDict (s := { s with toks := s.toks + k.draws }) ho hd (wpAny_point (q _ ⟨_, ep, Heap.get?_update_self _ ho (Obj.isFreed_of_dict (Obj.data_mapDict hd _)), hc.mapDict _, Obj.data_mapDict hd _, (hE.stay ho hd sb).over⟩ sb)))))
  | none =>
    rw [hp] at q
    have sb : Heap.SameBut d s.heap (s.heap.update d (Obj.mapDictKeys fun l => l.push ⟨k.hash w, v, x⟩)) := Heap.SameBut.update ..
    exact wpAny_bind (wpAny_rule (wpAny_updateDictKeys (hz := hz) (s := { s with toks := s.toks + k.draws }) ho hd (q _ ⟨_, ep + 1, Heap.get?_update_self _ ho (Obj.isFreed_of_dict (Obj.data_mapDictKeys hd _)), hc.mapDictKeys _, Obj.data_mapDictKeys hd _, (hE.stay ho hd sb).add (hk.stay ho hd sb) hp⟩ sb)))
theorem gotE_some : (gotE es ks k).isSome = true ↔ ∃ i e, place ks k = some i ∧ es[i]? = some e := by
  unfold gotE
  cases hp : place ks k with
  | none => simp
  | some i => cases he : es[i]? <;> simp [he]
/-- k in d -/
theorem has_k {Q : Value → Shared → Prop} (hu : A.units + 1 + 8 < cLine) (hk : KeyAt s.heap k v) (nm : (d == sysModules) = false) (D : DictE w s.heap d es ks) (q : Q (.bool (gotE es ks k).isSome) { s with toks := s.toks + k.draws }) :
    wpAny (model prog w) A (compareOp .In v (.ref d)) Q E s := by
  show wpAny _ _ (do return .bool (← contains (.ref d) v)) Q E s
  refine wpAny_bind (wpAny_contains_slot D.isDict F.slot_dict_contains (call_meetsIn F.slot_dict_contains D.isDict F.entry_dict_contains (F.args_dict_contains_2 _ _) (S := fun B R t => B = A ∧ t = s ∧ R (.ok (.ret (.bool (gotE es ks k).isSome))) { s with toks := s.toks + k.draws }) (fun B R t hS => ?_) ⟨rfl, rfl, wpAny_truthy_bool (wpAny_pure q)⟩))
  obtain ⟨rfl, rfl, hR⟩ := hS
  show wpAny _ _ (dictGet d v >>= _) _ _ _
  refine wpAny_bind (look (A := B.in1) hu hk D ?_)
  cases hg : gotE es ks k with
  | some x =>
    rw [hg] at hR
    show wpAny _ _ (ret (.bool true)) _ _ _
    exact wpAny_pure hR
  | none =>
    rw [hg] at hR
    show wpAny _ _ (Builtin.Dict.pendingKey? d v >>= _) _ _ _
    exact wpAny_bind (wpAny_pendingKey_other nm (wpAny_pure hR))
/-- d[k], which is there -/
theorem item_k {x : Value} {Q : Value → Shared → Prop} (hu : A.units + 1 + 8 < cLine) (hk : KeyAt s.heap k v) (D : DictE w s.heap d es ks) (g : gotE es ks k = some x) (q : Q x { s with toks := s.toks + k.draws }) : wpAny (model prog w) A (getItem (.ref d) v) Q E s := by
  unfold getItem
  try with_reducible refine wpAny_holding ?_
  refine wpAny_bind (wpAny_sequenceKey D.isDict (by decide) (wpAny_bind (wpAny_callSpecial?_slot (name := Str.ofString "__getitem__") D.isDict slot_dict_getitem (wpAny_call_entry slot_dict_getitem D.isDict entry_dict_getitem ?_ (args_dict_getitem _ _)))))
  show wpAny _ _ (dictGet d v >>= _) _ _ s
  refine wpAny_bind (look (A := A.in1) hu hk D ?_)
  rw [g]
  exact wpAny_pure ⟨x, rfl, wpAny_pure q⟩
/-- d[k] = x -/
theorem put_k {x : Value} {Q : Unit → Shared → Prop} (hu : A.units + 1 + 8 < cLine) (hk : KeyAt s.heap k v) (D : DictE w s.heap d es ks) (hz : es.size ≤ sizeLine)
    (q : ∀ h', DictE w h' d (putE w es ks k v x).1 (putE w es ks k v x).2 → Heap.SameBut d s.heap h' → Q () { s with heap := h', toks := s.toks + k.draws }) : wpAny (model prog w) A (setItem (.ref d) v x) Q E s := by
  unfold setItem
  try with_reducible refine wpAny_holding ?_
  refine wpAny_bind (wpAny_sequenceKey D.isDict (by decide) (wpAny_bind (wpAny_callSpecial?_slot (name := Str.ofString "__setitem__") D.isDict slot_dict_setitem (wpAny_call_entry slot_dict_setitem D.isDict entry_dict_setitem ?_ (args_dict_setitem _ _ _)))))
  show wpAny _ _ (Builtin.Dict.notOrdered "__setitem__" ⟨[.ref d, v, x], []⟩ >>= _) _ _ s
  refine wpAny_bind (wpAny_notOrdered_dict D.isDict ?_)
  show wpAny _ _ (dictSet d v x >>= _) _ _ s
  exact wpAny_bind (store (A := A.in1) hu hk D hz fun h' D' sb => wpAny_pure ⟨.none, rfl, wpAny_pure (q h' D' sb)⟩)
/-- d.get(k, x) -/
theorem get_k {x : Value} {Q : Value → Shared → Prop} (hu : A.units + 1 + 8 < cLine) (hk : KeyAt s.heap k v) (nm : (d == sysModules) = false) (D : DictE w s.heap d es ks) (q : Q ((gotE es ks k).getD x) { s with toks := s.toks + k.draws }) :
    wpAny (model prog w) A (call (.builtin "dict.get") [.ref d, v, x]) Q E s := by
  refine call_meetsIn F.slot_dict_get D.isDict F.entry_dict_get (F.args_dict_get_3 _ _ _) (S := fun B R t => B = A ∧ t = s ∧ R (.ok (.ret ((gotE es ks k).getD x))) { s with toks := s.toks + k.draws }) (fun B R t hS => ?_) ⟨rfl, rfl, q⟩
  obtain ⟨rfl, rfl, hR⟩ := hS
  show wpAny _ _ (dictGet d v >>= _) _ _ _
  refine wpAny_bind (look (A := B.in1) hu hk D ?_)
  cases hg : gotE es ks k with
  | some y =>
    rw [hg] at hR
    exact wpAny_pure hR
  | none =>
    rw [hg] at hR
    show wpAny _ _ (Builtin.Dict.missed d v >>= _) _ _ _
    exact wpAny_bind (wpAny_missed_other nm (wpAny_pure hR))
end
end UP.Dx

set_option Elab.async false
set_option linter.all false
set_option maxRecDepth 100000
set_option maxHeartbeats 4000000
set_option pp.maxSteps 500
/-! ### dicts whose keys are None and tuples: what the walks say of them -/
namespace UP
open PySem PySem.Spec PyProof.Rows L2
mutual
/-- the value v is the key k -/
inductive NK (H : Hp) : NestedKey → V → Prop
  | non : NK H .none .non
  | int (i : Int) : NK H (.num i) (.int i)
  | str (x : Str) : NK H (.text x) (.str x)
  | tup {a : Addr} {xs : List V} {ks : List NestedKey} : H a = some (.tup xs) → NKs H ks xs → NK H (.tup ks) (.ref a)
inductive NKs (H : Hp) : List NestedKey → List V → Prop
  | nil : NKs H [] []
  | cons {k : NestedKey} {v : V} {ks : List NestedKey} {vs : List V} : NK H k v → NKs H ks vs → NKs H (k :: ks) (v :: vs)
end
mutual
theorem NK.at {H H' : Hp} (t : ∀ a xs, H a = some (.tup xs) → H' a = some (.tup xs)) : ∀ {k : NestedKey} {v : V}, NK H k v → NK H' k v
  | _, _, .non => .non
  | _, _, .int i => .int i
  | _, _, .str x => .str x
  | _, _, .tup h r => .tup (t _ _ h) (NKs.at t r)
theorem NKs.at {H H' : Hp} (t : ∀ a xs, H a = some (.tup xs) → H' a = some (.tup xs)) : ∀ {ks : List NestedKey} {vs : List V}, NKs H ks vs → NKs H' ks vs
  | _, _, .nil => .nil
  | _, _, .cons h r => .cons (NK.at t h) (NKs.at t r)
end
mutual
theorem NK.is {P : Program} {w : World} {H : Hp} {h : Heap} (ok : HOk P w H h) : ∀ {k : NestedKey} {v : V} {u : Value}, NK H k v → RelV v u → NestedIs h k u
  | _, _, _, .non, r => by cases (show _ = Value.none from r); exact .none
  | _, _, _, .int i, r => by obtain ⟨t, rfl⟩ := (show ∃ t, _ = Value.int i t from r); exact .int i t
  | _, _, _, .str x, r => by obtain ⟨t, rfl⟩ := (show ∃ t, _ = Value.str x t from r); exact .text x t
  | _, _, _, .tup (a := a) (xs := xs) e q, r => by
    cases (show _ = Value.ref a from r)
    obtain ⟨_, its, rl, o, h1, h2, n, h3⟩ := (show ObjOk P w H h a (.tup xs) from ok a _ e)
    exact .tup h1 h2 h3 (by simpa using NKs.is ok q rl)
theorem NKs.is {P : Program} {w : World} {H : Hp} {h : Heap} (ok : HOk P w H h) : ∀ {ks : List NestedKey} {vs : List V} {us : List Value}, NKs H ks vs → Vals vs us → NestedAll h ks us
  | _, _, _, .nil, .nil => .nil
  | _, _, _, .cons x y, .cons r t => .cons (NK.is ok x r) (NKs.is ok y t)
end
abbrev RowX := NestedKey × V × V
/-- a key as these dicts have it: None or a tuple -/
structure KeyIn (H : Hp) (k : NestedKey) (v : V) : Prop where
  tell : NK H k v
  low : k.depth ≤ 8
  form : v = .non ∨ ∃ a, v = .ref a
theorem KeyIn.at {H H' : Hp} {k : NestedKey} {v : V} (x : KeyIn H k v) (t : ∀ a xs, H a = some (.tup xs) → H' a = some (.tup xs)) : KeyIn H' k v := ⟨x.tell.at t, x.low, x.form⟩
theorem KeyIn.same {H H' : Hp} {k : NestedKey} {v : V} (x : KeyIn H k v) (s : Same H H') : KeyIn H' k v := x.at fun a xs h => s a _ h
theorem KeyIn.is {P : Program} {w : World} {H : Hp} {h : Heap} {k : NestedKey} {v : V} {u : Value} (x : KeyIn H k v) (ok : HOk P w H h) (r : RelV v u) : Dx.KeyAt h k u := by
  refine ⟨x.tell.is ok r, x.low, ?_⟩
  rcases x.form with rfl | ⟨a, rfl⟩
  · exact .inl r
  · exact .inr ⟨a, r⟩
structure RowE (w : World) (r : RowX) (e : DictEntry) : Prop where
  hash : e.hash = r.1.hash w
  key : RelV r.2.1 e.key
  val : RelV r.2.2 e.val
def DX (w : World) (a : Addr) (rows : List RowX) : HO := .ext fun h => (a == sysModules) = false ∧ (rows.map (·.1)).Nodup ∧ ∃ o es ep, h.get? a = some o ∧ o.ExactDict ∧ o.data = .dict es ep ∧ Paired (RowE w) rows es.toList
/-- at a stands a dict with these rows -/
structure DXs (w : World) (H : Hp) (a : Addr) (rows : List RowX) : Prop where
  there : H a = some (DX w a rows)
  keys : ∀ r ∈ rows, KeyIn H r.1 r.2.1
theorem DXs.same {w : World} {H H' : Hp} {a : Addr} {rows : List RowX} (x : DXs w H a rows) (s : Same H H') : DXs w H' a rows := ⟨s a _ x.there, fun r hr => (x.keys r hr).same s⟩
theorem not_tup {w : World} {a : Addr} {rows : List RowX} {xs : List V} : DX w a rows ≠ .tup xs := fun z => by cases z
theorem upd_tups {w : World} {H : Hp} {a : Addr} {rows : List RowX} {o : HO} (h : H a = some (DX w a rows)) : ∀ b xs, H b = some (.tup xs) → upd H a o b = some (.tup xs) := fun b xs e => by
  have n : b ≠ a := fun z => by
    rw [z, h] at e
    exact not_tup (Option.some.inj e)
  rw [upd_ne n]
  exact e
/-- the value at a key -/
def valX (rows : List RowX) (k : NestedKey) : Option V := (Dx.place (rows.map (·.1)) k).bind fun i => rows[i]?.map (·.2.2)
def putX (rows : List RowX) (k : NestedKey) (y v : V) : List RowX := match Dx.place (rows.map (·.1)) k with
  | some i => rows.modify i fun r => (r.1, r.2.1, v)
  | none => rows ++ [(k, y, v)]
theorem valX_none {rows : List RowX} {k : NestedKey} : valX rows k = none ↔ k ∉ rows.map (·.1) := by
  unfold valX
  constructor
  · intro h hm
    cases hp : Dx.place (rows.map (·.1)) k with
    | none => exact Dx.place_none hp hm
    | some i =>
      rw [hp] at h
      have := Dx.place_ok hp
      rw [List.getElem?_map] at this
      cases hr : rows[i]? with
      | none => rw [hr] at this; cases this
      | some r => simp [hr] at h
  · intro h
    rw [Dx.place_no fun i hi => h (List.mem_of_getElem? hi)]
    rfl
theorem valX_isSome {rows : List RowX} {k : NestedKey} : (valX rows k).isSome = decide (k ∈ rows.map (·.1)) := by
  by_cases h : k ∈ rows.map (·.1)
  · rw [decide_eq_true h]
    cases e : valX rows k with
    | none => exact absurd h (valX_none.mp e)
    | some x => rfl
  · rw [decide_eq_false h, valX_none.mpr h]
    rfl
theorem putX_new {rows : List RowX} {k : NestedKey} {y v : V} (h : k ∉ rows.map (·.1)) : putX rows k y v = rows ++ [(k, y, v)] := by
  unfold putX
  rw [Dx.place_no fun i hi => h (List.mem_of_getElem? hi)]
theorem modify_keys {rows : List RowX} {i : Nat} {v : V} : (rows.modify i fun r => (r.1, r.2.1, v)).map (·.1) = rows.map (·.1) := by
  refine List.ext_getElem? fun j => ?_
  rw [List.getElem?_map, List.getElem?_map, List.getElem?_modify]
  cases rows[j]? with
  | none => rfl
  | some r =>
    by_cases c : i = j
    · simp [c]
    · simp [c]
theorem paired_get {α β : Type} {F : α → β → Prop} : ∀ {l : List α} {m : List β} {i : Nat}, Paired F l m → (l[i]? = none ∧ m[i]? = none) ∨ ∃ a b, l[i]? = some a ∧ m[i]? = some b ∧ F a b
  | _, _, _, .nil => .inl ⟨by simp, by simp⟩
  | _, _, 0, .cons h _ => .inr ⟨_, _, rfl, rfl, h⟩
  | _, _, i + 1, .cons _ t => by
    rcases paired_get (i := i) t with ⟨h1, h2⟩ | ⟨a, b, h1, h2, h3⟩
    · exact .inl ⟨by simpa using h1, by simpa using h2⟩
    · exact .inr ⟨a, b, by simpa using h1, by simpa using h2, h3⟩
theorem paired_modify {α β : Type} {F : α → β → Prop} {f : α → α} {g : β → β} (fg : ∀ a b, F a b → F (f a) (g b)) : ∀ {l : List α} {m : List β} (i : Nat), Paired F l m → Paired F (l.modify i f) (m.modify i g)
  | _, _, i, .nil => by cases i <;> exact .nil
  | _, _, 0, .cons h t => .cons (fg _ _ h) t
  | _, _, i + 1, .cons h t => .cons h (paired_modify fg i t)
section
variable {X : Cx} {pins : List (Addr × Obj)} {σ : L2.St} {H : Hp} {s : Shared} {a : Addr} {A : Around} {E : Value → Shared → Prop} {rows : List RowX} {k : NestedKey} {y v : V} {u r : Value} {P : Program} {w : World} {h : Heap}
theorem DXs.ents (D : DXs w H a rows) (ok : HOk P w H h) : (a == sysModules) = false ∧ ∃ es, Dx.DictE w h a es (rows.map (·.1)) ∧ Paired (RowE w) rows es.toList := by
  obtain ⟨⟨hd, nd, o, es, ep, h1, h2, h3, pr⟩, _, _⟩ := (show ObjOk P w H h a (DX w a rows) from ok a _ D.there)
  refine ⟨hd, es, ⟨o, ep, h1, h2, h3, ⟨by rw [List.length_map, Paired.length pr, Array.length_toList], fun i k hi => ?_, nd⟩⟩, pr⟩
  rw [List.getElem?_map] at hi
  rcases paired_get (i := i) pr with ⟨e1, _⟩ | ⟨r, e, e1, e2, e3⟩
  · rw [e1] at hi; cases hi
  · rw [e1] at hi
    cases hi
    exact ⟨e, by simpa using e2, e3.hash, (D.keys r (List.mem_of_getElem? e1)).is ok e3.key⟩
theorem got_rel {es : Array DictEntry} (pr : Paired (RowE w) rows es.toList) (k : NestedKey) : RelO (valX rows k) (Dx.gotE es (rows.map (·.1)) k) := by
  unfold valX Dx.gotE
  cases Dx.place (rows.map (·.1)) k with
  | none => trivial
  | some i =>
    show RelO (rows[i]?.map _) (es[i]?.map _)
    rw [← Array.getElem?_toList]
    rcases paired_get (i := i) pr with ⟨e1, e2⟩ | ⟨r, e, e1, e2, e3⟩
    · rw [e1, e2]; trivial
    · rw [e1, e2]; exact e3.val
theorem put_rel {es : Array DictEntry} (pr : Paired (RowE w) rows es.toList) (ry : RelV y u) (rv : RelV v r) : Paired (RowE w) (putX rows k y v) (Dx.putE w es (rows.map (·.1)) k u r).1.toList ∧ (putX rows k y v).map (·.1) = (Dx.putE w es (rows.map (·.1)) k u r).2 := by
  unfold putX Dx.putE
  cases Dx.place (rows.map (·.1)) k with
  | none =>
    refine ⟨?_, by rw [List.map_append]; rfl⟩
    show Paired _ _ (es.push _).toList
    rw [Array.toList_push]
    exact Paired.snoc pr ⟨rfl, ry, rv⟩
  | some i =>
    refine ⟨?_, modify_keys⟩
    show Paired _ _ (es.modify i _).toList
    rw [Array.toList_modify]
    exact paired_modify (fun x e z => ⟨z.hash, z.key, rv⟩) i pr
theorem putX_keys {x : RowX} (hx : x ∈ putX rows k y v) : x.1 = k ∧ x.2.1 = y ∨ ∃ z ∈ rows, z.1 = x.1 ∧ z.2.1 = x.2.1 := by
  unfold putX at hx
  cases hp : Dx.place (rows.map (·.1)) k with
  | none =>
    rw [hp] at hx
    rcases List.mem_append.mp hx with z | z
    · exact .inr ⟨x, z, rfl, rfl⟩
    · rw [List.mem_singleton.mp z]
      exact .inl ⟨rfl, rfl⟩
  | some i =>
    rw [hp] at hx
    obtain ⟨j, hj⟩ := List.getElem?_of_mem hx
    rw [List.getElem?_modify] at hj
    cases hr : rows[j]? with
    | none => rw [hr] at hj; cases hj
    | some z =>
      rw [hr] at hj
      refine .inr ⟨z, List.mem_of_getElem? hr, ?_⟩
      replace hj : (if i = j then (z.1, z.2.1, v) else z) = x := Option.some.inj hj
      by_cases c : i = j
      · rw [if_pos c] at hj
        rw [← hj]
        exact ⟨rfl, rfl⟩
      · rw [if_neg c] at hj
        rw [← hj]
        exact ⟨rfl, rfl⟩
theorem DXs.put (D : DXs w H a rows) (K : KeyIn H k y) : DXs w (upd H a (DX w a (putX rows k y v))) a (putX rows k y v) :=
  ⟨upd_same, fun x hx => by
    rcases putX_keys hx with ⟨e1, e2⟩ | ⟨z, hz, e1, e2⟩
    · rw [e1, e2]
      exact K.at (upd_tups D.there)
    · rw [← e1, ← e2]
      exact (D.keys z hz).at (upd_tups D.there)⟩
/-- y in d -/
theorem x_in {Q : Value → Shared → Prop} (hu : A.units + 65 < cLine) (I : Inv X pins σ H s) (D : DXs X.w H a rows) (K : KeyIn H k y) (ry : RelV y u) (h : ∀ s', Inv X pins σ H s' → Q (.bool (valX rows k).isSome) s') :
    wpAny (model X.prog X.w) A (compareOp .In u (.ref a)) Q E s := by
  obtain ⟨hd, es, dd, pr⟩ := D.ents I.hok
  refine Dx.has_k (k := k) (by omega) (K.is I.hok ry) hd dd ?_
  rw [← (got_rel pr k).isSome_eq]
  exact h _ (I.tok _)
/-- d[y] -/
theorem x_item {Q : Value → Shared → Prop} (hu : A.units + 65 < cLine) (I : Inv X pins σ H s) (D : DXs X.w H a rows) (K : KeyIn H k y) (ry : RelV y u) (g : valX rows k = some v) (h : ∀ w' s', Inv X pins σ H s' → RelV v w' → Q w' s') :
    wpAny (model X.prog X.w) A (getItem (.ref a) u) Q E s := by
  obtain ⟨hd, es, dd, pr⟩ := D.ents I.hok
  have q := got_rel pr k
  rw [g] at q
  obtain ⟨x, hx, rx⟩ := RelO.some_of q
  exact Dx.item_k (k := k) (by omega) (K.is I.hok ry) dd hx (h x _ (I.tok _) rx)
theorem x_new {es : Array DictEntry} {h' : Heap} (hd : (a == sysModules) = false) (pr : Paired (RowE w) rows es.toList) (dd : Dx.DictE w h' a es (rows.map (·.1))) : ObjOk P w H h' a (DX w a rows) := by
  obtain ⟨o, ep, h1, h2, h3, hE⟩ := dd
  exact ⟨⟨hd, hE.once, o, es, ep, h1, h2, h3, pr⟩, ⟨o, h1⟩, fun _ _ ⟨p1, p2, o, es, ep, q1, q2, q3, q4⟩ st => ⟨p1, p2, o, es, ep, st _ q1, q2, q3, q4⟩⟩
/-- d[y] = v -/
theorem x_setItem {Q : Unit → Shared → Prop} (hu : A.units + 65 < cLine) (I : Inv X pins σ H s) (D : DXs X.w H a rows) (K : KeyIn H k y) (hz : rows.length ≤ sizeLine) (ry : RelV y u) (rv : RelV v r) (h : ∀ s', Inv X pins σ (upd H a (DX X.w a (putX rows k y v))) s' → Q () s') :
    wpAny (model X.prog X.w) A (setItem (.ref a) u r) Q E s := by
  obtain ⟨hd, es, dd, pr⟩ := D.ents I.hok
  refine Dx.put_k (k := k) (by omega) (K.is I.hok ry) dd (by rw [← Array.length_toList, ← Paired.length pr]; exact hz) fun h' dd' sb => h _ ?_
  obtain ⟨p1, p2⟩ := put_rel (k := k) pr ry rv
  refine d_write I (by rw [D.there]; exact True.intro) sb (let ⟨o, _, h1, _⟩ := dd'; ⟨o, h1⟩) (x_new hd p1 ?_)
  rw [p2]
  exact dd'
theorem x_store {Q : Unit → Shared → Prop} (hu : A.units + 65 < cLine) (I : Inv X pins σ H s) (D : DXs X.w H a rows) (K : KeyIn H k y) (hz : rows.length ≤ sizeLine) (ry : RelV y u) (rv : RelV v r) (h : ∀ s', Inv X pins σ (upd H a (DX X.w a (putX rows k y v))) s' → Q () s') :
    wpAny (model X.prog X.w) A (dictSet a u r) Q E s := by
  obtain ⟨hd, es, dd, pr⟩ := D.ents I.hok
  refine Dx.store (k := k) (by omega) (K.is I.hok ry) dd (by rw [← Array.length_toList, ← Paired.length pr]; exact hz) fun h' dd' sb => h _ ?_
  obtain ⟨p1, p2⟩ := put_rel (k := k) pr ry rv
  refine d_write I (by rw [D.there]; exact True.intro) sb (let ⟨o, _, h1, _⟩ := dd'; ⟨o, h1⟩) (x_new hd p1 ?_)
  rw [p2]
  exact dd'
theorem x_typeIs (I : Inv X pins σ H s) (D : DXs X.w H a rows) : s.TypeIs (.ref a) "dict" := by
  obtain ⟨_, es, dd, _⟩ := D.ents I.hok
  exact dd.isDict
theorem x_empty (h : Heap) (hb : sysModules < h.objs.size) : ObjOk P w H (h.push { cls := .type "dict", data := .dict #[] }) h.objs.size (DX w h.objs.size []) :=
  ⟨⟨beq_eq_false_iff_ne.mpr (Ne.symm (Nat.ne_of_lt hb)), List.nodup_nil, _, #[], 0, Heap.get?_push_size _ rfl, ⟨rfl, rfl, rfl⟩, rfl, .nil⟩, ⟨_, Heap.get?_push_size _ rfl⟩, fun _ _ ⟨p1, p2, o, es, ep, q1, q2, q3, q4⟩ st => ⟨p1, p2, o, es, ep, st _ q1, q2, q3, q4⟩⟩
end
/-! readings and rules -/
def rInX (w : World) : V → V → Hp → VK → Prop := fun y x H Q => ∃ (a : Addr) (rows : List RowX) (k : NestedKey), x = .ref a ∧ DXs w H a rows ∧ KeyIn H k y ∧ Q (.bl (valX rows k).isSome) H
def tDGetX (w : World) (td ty : TE) : TE := fun σ H Q => td σ H fun x H1 => ty σ H1 fun y H2 => ∃ (a : Addr) (rows : List RowX) (k : NestedKey) (v : V), x = .ref a ∧ DXs w H2 a rows ∧ KeyIn H2 k y ∧ valX rows k = some v ∧ Q v H2
def sDPutX (w : World) (td ty tv : TE) : TS := fun D σ H => tv σ H fun v H1 => td σ H1 fun x H2 => ty σ H2 fun y H3 => ∃ (a : Addr) (rows : List RowX) (k : NestedKey), x = .ref a ∧ DXs w H3 a rows ∧ KeyIn H3 k y ∧ rows.length ≤ sizeLine ∧ D.nx σ (upd H3 a (DX w a (putX rows k y v)))
def tDNewX (w : World) : TE := fun _ H Q => ∀ p, H p = none → Q (.ref p) (upd H p (DX w p []))
/-- {y: v} -/
def tDOneX (w : World) (ty tv : TE) : TE := fun σ H Q => ∀ p, H p = none → ty σ (upd H p (DX w p [])) fun y H1 => tv σ H1 fun v H2 => H2 p = some (DX w p []) ∧ ∃ k : NestedKey, KeyIn H2 k y ∧ Q (.ref p) (upd H2 p (DX w p [(k, y, v)]))
section
variable {X : Cx} {o i e value : Expr} {pos pos' tpos : Pos} {td ty tv : TE} {w : World}
theorem op_inX (hw : X.w = w) (hu : X.A.units + 65 < cLine) : OpR X (compareOp .In) (rInX w) := by
  subst hw
  rintro pins s σ H y x u r Q I ry rx ⟨a, rows, k, rfl, D, K, q⟩
  cases (show r = Value.ref a from rx)
  exact x_in hu I D K ry fun s' I' => ⟨.bl (valX rows k).isSome, H, I', rfl, q⟩
theorem pe_dgetX (hw : X.w = w) (hu : X.A.units + 65 < cLine) (ho : PE X o td) (hi : PE X i ty) (hs : NoSl i) : PE X (.Subscript o i pos) (tDGetX w td ty) := by
  subst hw
  refine ⟨fun pins s σ H Q I h => ?_⟩
  refine subD_of PySem.F.slot_dict_getitem.lookup hs (thn (ho.run pins s σ H _ I h) fun u s1 ⟨x, H1, I1, rx, q1⟩ => thn (hi.run pins s1 σ H1 _ I1 q1) fun iv s2 ⟨y, H2, I2, ry, a, rows, k, v, ex, D, K, g, q2⟩ => ?_)
  subst ex
  obtain rfl : u = Value.ref a := rx
  exact ⟨x_typeIs I2 D, x_item hu I2 D K ry g fun w' s3 I3 rw' => ⟨v, H2, I3, rw', q2⟩⟩
theorem ps_dputX (hw : X.w = w) (hu : X.A.units + 65 < cLine) (ho : PE X o td) (hi : PE X i ty) (hv : PE X value tv) (hs : swapsWith value (some (.Subscript o i pos')) pos.line X.env = pure false) :
    PS X (.Assign [.Subscript o i pos'] value pos) (sDPutX w td ty tv) := by
  subst hw
  refine ⟨fun pins s σ H D I h => ?_⟩
  refine wpAny_Assign_Subscript (thn (hv.run pins s σ H _ I h) fun r s1 ⟨v, H1, I1, rv, q1⟩ => thn (ho.run pins s1 σ H1 _ I1 q1) fun u s2 ⟨x, H2, I2, rx, q2⟩ => thn (hi.run pins s2 σ H2 _ I2 q2) fun iv s3 ⟨y, H3, I3, ry, a, rows, k, ex, g, K, hz, q3⟩ => ?_) hs
  subst ex
  obtain rfl : u = Value.ref a := rx
  exact x_setItem hu I3 g K hz ry rv fun s4 I4 => ⟨σ, _, I4, q3⟩
theorem pe_dnewX (hw : X.w = w) : PE X (.Dict [] [] pos) (tDNewX w) := by
  subst hw
  exact ⟨fun pins s σ H Q I h => wpAny_Dict_empty ⟨.ref s.heap.objs.size, _, I.laid (a := s.heap.objs.size) (o := DX X.w s.heap.objs.size []) (t' := s.toks) (fun _ _ q => Heap.get?_push_of_some _ q) (Nat.le_refl _) (x_empty s.heap I.big), rfl, h _ (I.hok.fresh (Nat.le_refl _))⟩⟩
theorem pe_doneX (hw : X.w = w) (hu : X.A.units + 65 < cLine) (hk : PE X i ty) (hv : PE X value tv) : PE X (.Dict [some i] [value] pos) (tDOneX w ty tv) := by
  subst hw
  refine ⟨fun pins s σ H Q I q => ?_⟩
  have hn := I.hok.fresh (Nat.le_refl s.heap.objs.size)
  have I1 := I.laid (a := s.heap.objs.size) (o := DX X.w s.heap.objs.size []) (h' := s.heap.push { cls := .type "dict", data := .dict #[] }) (t' := s.toks) (fun _ _ q => Heap.get?_push_of_some _ q) (Nat.le_refl _) (x_empty s.heap I.big)
  refine wpAny_Dict_any rfl rfl (fun z => by cases z) (show 1 ≤ 15 by decide) (pairTrees_cons_walk (thn (hk.run pins _ σ _ _ I1 (q _ hn)) fun u s1 ⟨y, H1, I1, ry, q1⟩ => thn (hv.run pins s1 σ H1 _ I1 q1) fun r s2 ⟨v, H2, I2, rv, e, k, K, q2⟩ => pairTrees_nil_walk ?_))
  unfold storeAll
  rw [List.forIn_cons]
  refine wpAny_bind (wpAny_bind (x_store hu I2 ⟨e, fun r hr => by cases hr⟩ K (Nat.zero_le _) ry rv fun s3 I3 => wpAny_pure ?_))
  show wpAny _ _ (forIn [] PUnit.unit _) _ _ _
  rw [List.forIn_nil]
  exact wpAny_pure ⟨.ref s.heap.objs.size, _, I3, rfl, q2⟩
end
end UP

set_option Elab.async false
set_option linter.all false
set_option maxRecDepth 100000
set_option maxHeartbeats 4000000
set_option pp.maxSteps 300
namespace UP
open PySem PySem.Spec PyProof.Rows L2
/-! ### texts -/
theorem sIx_m1 (n d : Nat) : HT.sIx (n + 1) d (some (-1)) = n := by
  show (if (-1 : Int) < 0 then ((-1 : Int) + ((n + 1 : Nat) : Int)).toNat else min (-1 : Int).toNat (n + 1)) = n
  rw [if_pos (by decide)]
  omega
theorem cut_head {a z : Str} {c : Nat} (h : TL.tl z = TL.tl a ++ [c]) : cutS z none (some (-1)) = a := by
  have hl : z.length = a.length + 1 := by
    rw [TL.len_tl, h, List.length_append, ← TL.len_tl]
    rfl
  refine TL.ext_tl ?_
  unfold cutS
  rw [hl, sIx_m1, HT.sIx_none]
  show ((TL.tl z).drop 0).take (a.length - 0) = _
  rw [h, List.drop_zero, Nat.sub_zero, TL.len_tl, List.take_left]
theorem cut_tail {a z : Str} {c : Nat} (h : TL.tl z = TL.tl a ++ [c]) : cutS z (some (-1)) none = ⟨#[c]⟩ := by
  have hl : z.length = a.length + 1 := by
    rw [TL.len_tl, h, List.length_append, ← TL.len_tl]
    rfl
  refine TL.ext_tl ?_
  unfold cutS
  rw [hl, sIx_m1, HT.sIx_none]
  show ((TL.tl z).drop a.length).take (a.length + 1 - a.length) = [c]
  rw [h, TL.len_tl, List.drop_left, show (TL.tl a).length + 1 - (TL.tl a).length = 1 by omega]
  rfl
theorem at_tail {a z : Str} {c : Nat} (h : TL.tl z = TL.tl a ++ [c]) : atI z.cps.toList (-1) = some c := by
  show atI (TL.tl z) (-1) = some c
  rw [h]
  exact atI_last _ _
theorem tl_sp : TL.tl (" " : Str) = [32] := by decide +kernel
theorem join_len (ws : List Str) : (Txt.join " " ws).length ≤ (ws.map (·.length)).sum + ws.length := by
  rw [TL.len_tl, TL.join_eq, TL.tl_join, tl_sp]
  have : ∀ l : List Str, (TL.joinL [32] (l.map TL.tl)).length ≤ (l.map (·.length)).sum + l.length := by
    intro l
    induction l with
    | nil => exact Nat.zero_le _
    | cons p t ih =>
      cases t with
      | nil =>
        show (TL.tl p).length ≤ p.length + 0 + 1
        rw [← TL.len_tl]
        omega
      | cons q r =>
        show (TL.tl p ++ ([32] ++ TL.joinL [32] ((q :: r).map TL.tl))).length ≤ (p.length + ((q :: r).map (·.length)).sum) + ((q :: r).length + 1)
        rw [List.length_append, List.length_append, ← TL.len_tl]
        show p.length + (1 + _) ≤ _
        omega
  exact this ws
theorem sum_le {ws : List Str} {n : Nat} (h : ∀ w ∈ ws, w.length ≤ n) : (ws.map (·.length)).sum ≤ n * ws.length := by
  induction ws with
  | nil => exact Nat.zero_le _
  | cons p t ih =>
    have h1 := h p (List.mem_cons_self ..)
    have h2 := ih fun w hw => h w (List.mem_cons_of_mem _ hw)
    show p.length + (t.map (·.length)).sum ≤ n * (t.length + 1)
    rw [Nat.mul_succ]
    omega
/-- words without a blank are found again -/
theorem split_words {ws : List Str} (ne : ws ≠ []) (h : ∀ w ∈ ws, 32 ∉ TL.tl w) : Txt.split (Txt.join " " ws) " " = ws := TL.split_join tl_sp (by decide +kernel) ne h
theorem join_ne {ws : List Str} (ne : ws ≠ []) (h : ∀ w ∈ ws, TL.tl w ≠ []) : Txt.join " " ws ≠ "" := fun e => by
  have e2 := congrArg TL.tl e
  rw [TL.join_eq, TL.tl_join, show TL.tl ("" : Str) = [] by decide +kernel] at e2
  cases ws with
  | nil => exact ne rfl
  | cons p t =>
    have hp := h p (List.mem_cons_self ..)
    cases t with
    | nil => exact hp e2
    | cons q r =>
      have e2 : TL.tl p ++ (TL.tl (" " : Str) ++ TL.joinL (TL.tl (" " : Str)) ((q :: r).map TL.tl)) = [] := e2
      exact hp (List.append_eq_nil_iff.mp e2).1
theorem join_nil : Txt.join " " [] = "" := by
  refine TL.ext_tl ?_
  rw [TL.join_eq, TL.tl_join]
  exact (show TL.tl ("" : Str) = [] by decide +kernel).symm
theorem kind_tl {k : Str} (h : KindOk k) {c : Nat} (hc : c ∈ TL.tl k) : 97 ≤ c ∧ c ≤ 122 := h.2.2 c hc
/-! ### entries of records -/
abbrev En := Option Str × Bool
def actS (b : Bool) : Str := if b then "waits" else "leaves"
def sgnS (b : Bool) : Str := if b then "+" else "-"
def sgnC (b : Bool) : Nat := if b then 43 else 45
def kdS (k : Option Str) : Str := k.getD "?"
def koV : Option Str → V
  | none => .non
  | some s => .str s
def wdS (e : En) : Str := kdS e.1 ++ sgnS e.2
def EnOk (e : En) : Prop := ∀ k, e.1 = some k → KindOk k
theorem tl_sgn (b : Bool) : TL.tl (sgnS b) = [sgnC b] := by cases b <;> decide +kernel
theorem tl_q : TL.tl ("?" : Str) = [63] := by decide +kernel
theorem sgn_eq (b : Bool) : (⟨#[sgnC b]⟩ : Str) = sgnS b := TL.ext_tl (tl_sgn b).symm
theorem tl_wd (e : En) : TL.tl (wdS e) = TL.tl (kdS e.1) ++ [sgnC e.2] := by
  unfold wdS
  rw [TL.tl_append, tl_sgn]
theorem kd_free {e : En} (h : EnOk e) : 32 ∉ TL.tl (kdS e.1) := fun hm => by
  obtain ⟨k, b⟩ := e
  cases k with
  | none =>
    have hm : 32 ∈ TL.tl ("?" : Str) := hm
    rw [tl_q] at hm
    exact absurd hm (by decide)
  | some k =>
    have := kind_tl (h k rfl) hm
    omega
theorem wd_free {e : En} (h : EnOk e) : 32 ∉ TL.tl (wdS e) := fun hm => by
  rw [tl_wd] at hm
  rcases List.mem_append.mp hm with z | z
  · exact kd_free h z
  · have := List.mem_singleton.mp z
    obtain ⟨k, b⟩ := e
    cases b
    · exact absurd (show (32 : Nat) = 45 from this) (by decide)
    · exact absurd (show (32 : Nat) = 43 from this) (by decide)
theorem wd_ne (e : En) : TL.tl (wdS e) ≠ [] := by
  rw [tl_wd]
  simp
theorem kd_len {e : En} (h : EnOk e) : (kdS e.1).length ≤ 8 := by
  obtain ⟨k, b⟩ := e
  cases k with
  | none =>
    show ("?" : Str).length ≤ 8
    decide +kernel
  | some k => exact (h k rfl).2.1
theorem sgn_len (b : Bool) : (sgnS b).length = 1 := by
  rw [TL.len_tl, tl_sgn]
  rfl
theorem wd_len {e : En} (h : EnOk e) : (wdS e).length ≤ 9 := by
  have := kd_len h
  rw [TL.len_tl, tl_wd, List.length_append, ← TL.len_tl]
  show (kdS e.1).length + 1 ≤ 9
  omega
theorem kd_q {e : En} (h : EnOk e) : kdS e.1 = "?" ↔ e.1 = none := by
  obtain ⟨k, b⟩ := e
  cases k with
  | none => exact ⟨fun _ => rfl, fun _ => rfl⟩
  | some k =>
    refine ⟨fun z => ?_, fun z => by cases z⟩
    have z : k = "?" := z
    have h := h k rfl
    rw [z] at h
    exact absurd h (by decide +kernel)
/-- a record's text -/
def rtS (es : List En) : Str := Txt.join " " (es.map wdS)
theorem rt_len {es : List En} (h : ∀ e ∈ es, EnOk e) (l : es.length ≤ 400) : (rtS es).length ≤ 4000 := by
  have h1 := join_len (es.map wdS)
  have h2 := sum_le (ws := es.map wdS) (n := 9) (fun w hw => by
    obtain ⟨e, he, rfl⟩ := List.mem_map.mp hw
    exact wd_len (h e he))
  rw [List.length_map] at h1 h2
  show (Txt.join " " (es.map wdS)).length ≤ 4000
  omega
def EnV (H : Hp) (v : V) (e : En) : Prop := ∃ t, v = .ref t ∧ H t = some (.tup [koV e.1, .str (actS e.2)])
def EnG (H : Hp) (v : V) (e : En) : Prop := ∃ t, v = .ref t ∧ Sq2 H t [koV e.1, .str (actS e.2)]
def RecG (H : Hp) (v : V) (es : List En) : Prop := ∃ a xs, v = .ref a ∧ Sq2 H a xs ∧ Paired (EnG H) xs es
def Rec (H : Hp) (a : Addr) (es : List En) : Prop := ∃ xs, H a = some (.lst xs) ∧ Paired (EnV H) xs es
theorem EnV.tk {H H' : Hp} {v : V} {e : En} (h : EnV H v e) (k : ∀ t xs, H t = some (.tup xs) → H' t = some (.tup xs)) : EnV H' v e := by
  obtain ⟨t, rfl, ht⟩ := h
  exact ⟨t, rfl, k _ _ ht⟩
theorem EnV.same {H H' : Hp} {v : V} {e : En} (s : Same H H') (h : EnV H v e) : EnV H' v e := h.tk fun _ _ e => s _ _ e
theorem EnG.same {H H' : Hp} {v : V} {e : En} (s : Same H H') (h : EnG H v e) : EnG H' v e := by
  obtain ⟨t, rfl, ht⟩ := h
  exact ⟨t, rfl, ht.same s⟩
theorem RecG.same {H H' : Hp} {v : V} {es : List En} (s : Same H H') (h : RecG H v es) : RecG H' v es := by
  obtain ⟨a, xs, rfl, hx, hp⟩ := h
  exact ⟨a, xs, rfl, hx.same s, Paired.imp (fun _ _ z => EnG.same s z) hp⟩
theorem EnV.dress {H : Hp} {v : V} {e : En} (h : EnV H v e) : EnG H v e := by
  obtain ⟨t, rfl, ht⟩ := h
  exact ⟨t, rfl, .inr ht⟩
theorem Rec.dress {H : Hp} {a : Addr} {es : List En} (h : Rec H a es) : RecG H (.ref a) es := by
  obtain ⟨xs, hx, hp⟩ := h
  exact ⟨a, xs, rfl, .inl hx, Paired.imp (fun _ _ => EnV.dress) hp⟩
theorem Rec.same {H H' : Hp} {a : Addr} {es : List En} (s : Same H H') (h : Rec H a es) : Rec H' a es := by
  obtain ⟨xs, hx, hp⟩ := h
  exact ⟨xs, s _ _ hx, Paired.imp (fun _ _ z => EnV.same s z) hp⟩
/-! ### the written dicts -/
structure TexT (K : PySem.W.Frag) (w : World) (mg : Str → Option Value) (aM aA : Addr) : Prop where
  a_MARKS : mg "MARKS" = some (.ref aM)
  m1 : KDct K w aM "waits" (.str "+")
  m2 : KDct K w aM "leaves" (.str "-")
  a_ACTIONS : mg "ACTIONS" = some (.ref aA)
  a1 : KDct K w aA "+" (.str "waits")
  a2 : KDct K w aA "-" (.str "leaves")
section
variable {X : Cx} {K : PySem.W.Frag} {w : World}
theorem ix_kdictK (h : X.K = K) (h2 : X.w = w) : IxR X (rIxD K w) := by
  subst h
  subst h2
  exact ix_kdict
end
theorem TexT.mk_ {K : PySem.W.Frag} {w : World} {mg : Str → Option Value} {aM aA : Addr} (T : TexT K w mg aM aA) (b : Bool) : KDct K w aM (actS b) (.str (sgnS b)) := by
  cases b
  · exact T.m2
  · exact T.m1
theorem TexT.ac_ {K : PySem.W.Frag} {w : World} {mg : Str → Option Value} {aM aA : Addr} (T : TexT K w mg aM aA) (b : Bool) : KDct K w aA (sgnS b) (.str (actS b)) := by
  cases b
  · exact T.a2
  · exact T.a1
theorem act_in (b : Bool) : inV (.str (actS b)) [.str "waits", .str "leaves"] = true := by cases b <;> decide +kernel
theorem sgn_in (b : Bool) : inV (.str (sgnS b)) [.str "+", .str "-"] = true := by cases b <;> decide +kernel
end UP

set_option Elab.async false
set_option linter.all false
set_option maxRecDepth 100000
set_option maxHeartbeats 4000000
set_option pp.maxSteps 300
namespace UP
open PySem PySem.Spec PyProof.Rows L2
section
variable {P : Program} {w : World} {K : PySem.W.Frag} {mg : Str → Option Value} {base : Heap} {aM aA : Addr}
/-! is_entry: slots 0:value -/
abbrev s_is_entry : Stmt := topS 17
theorem sc_is_entry : FnScope ["value"] ["value"] (defScope s_is_entry) := ⟨rfl, rfl, rfl, by decide +kernel, rfl, by decide +kernel, by decide +kernel⟩
def sp_is_entry : Sp := fun vs H Q _ => ∃ (v : V) (e : En), vs = [v] ∧ EnG H v e ∧ EnOk e ∧ ∀ H', Same H H' → Q (.bl true) H'
theorem ok_is_entry (D : Df K mg "is_entry" s_is_entry) (T : Tx mg) (G_is_couple : Has P w K mg base 1 "is_couple" ["value"] sp_is_couple) (G_is_kind : Has P w K mg base 1 "is_kind" ["value"] sp_is_kind) : Has P w K mg base 2 "is_entry" ["value"] sp_is_entry := by
  refine has_of D sc_is_entry (fun _ _ _ _ _ _ us hl => match us, hl with | [_], _ => rfl) (fun vs H Q E h => ?_) (fun f cdv A outer s H vs Q E hr h => ?_)
  · obtain ⟨v, r, rfl, _⟩ := h
    rfl
  · obtain ⟨v, e, rfl, ⟨t, rfl, ht⟩, ok, q⟩ := h
    refine ⟨_, (pss_cons (ps_if (PW.pt (pw_or (pt_not (pt_val (pe_callH G_is_couple (hr.mono (by omega)) (by rfl) (pa_cons (pv 0) pa_nil)))) (pw_or1 (pt_not (pt_val (pe_callB call_isi (by rfl) T.n_isinstance (by decide +kernel) (pa_cons (pe_ix ix_seq (pv 0) pe_int (fun _ _ => rfl)) (pa_cons (pe_bltn (v := .ty "str") (by rfl) T.n_str (by decide +kernel) rfl) pa_nil)))))))) (pss_one (ps_ret pe_bl)) pss_nil)
    (pss_one (ps_ret (pe_and (pe_or (pe_cmpR op_isN (pe_ix ix_seq (pv 0) pe_int (fun _ _ => rfl)) pe_non (nomark _)) (pe_one (pe_callH G_is_kind (hr.mono (by omega)) (by rfl) (pa_cons (pe_ix ix_seq (pv 0) pe_int (fun _ _ => rfl)) pa_nil)))) (pe_one (pe_cmpR op_in_seq (pe_ix ix_seq (pv 0) pe_int (fun _ _ => rfl)) (pe_tup (pa_cons pe_str (pa_cons pe_str pa_nil))) (by with_unfolding_all rfl))))))), ?_⟩
    refine ⟨_, rfl, t, _, rfl, ht, rfl, fun H1 s1 => ⟨true, rfl, iteN rfl ?_⟩⟩
    refine ⟨_, rfl, ix1 (ht.same s1) ⟨_, _, _, _, true, rfl, .ty "str", .base (.str _), kit_ty (by decide +kernel), true, rfl, iteF ?_⟩⟩
    have ht1 := ht.same s1
    obtain ⟨k, b⟩ := e
    have fin : ∀ H2 t2, Same H H2 → H2 t2 = none → Q (.bl (inV (.str (actS b)) [.str "waits", .str "leaves"])) (upd H2 t2 (.tup [.str "waits", .str "leaves"])) := fun H2 t2 s2 n2 => by
      rw [act_in]
      exact q _ (s2.trans (same_upd n2))
    cases k with
    | none =>
      refine ⟨_, rfl, ix0 ht1 ⟨rfl, true, rfl, iteT ?_⟩⟩
      exact ⟨true, rfl, iteT ⟨_, rfl, ix1 ht1 ⟨(by show 2 ≤ sizeLine; decide), fun t2 n2 => ⟨t2, _, rfl, .inr (.of upd_same), rfl, rfl, fin _ t2 s1 n2⟩⟩⟩⟩
    | some k =>
      refine ⟨_, rfl, ix0 ht1 ⟨rfl, false, rfl, iteF ?_⟩⟩
      refine ⟨_, rfl, ix0 ht1 ⟨k, rfl, ok k rfl, fun H2 s2 => ⟨true, rfl, iteT ?_⟩⟩⟩
      exact ⟨_, rfl, ix1 (ht1.same s2) ⟨(by show 2 ≤ sizeLine; decide), fun t2 n2 => ⟨t2, _, rfl, .inr (.of upd_same), rfl, rfl, fin _ t2 (s1.trans s2) n2⟩⟩⟩
/-! is_record: slots 0:value 1:entry -/
abbrev s_is_record : Stmt := topS 18
theorem sc_is_record : FnScope ["value", "entry"] ["value"] (defScope s_is_record) := ⟨rfl, rfl, rfl, by decide +kernel, rfl, by decide +kernel, by decide +kernel⟩
def sp_is_record : Sp := fun vs H Q _ => ∃ (v : V) (es : List En), vs = [v] ∧ RecG H v es ∧ (∀ e ∈ es, EnOk e) ∧ es.length ≤ 400 ∧ ∀ H', Same H H' → Q (.bl true) H'
theorem ok_is_record (D : Df K mg "is_record" s_is_record) (T : Tx mg) (G_is_listed : Has P w K mg base 1 "is_listed" ["value", "most"] sp_is_listed) (G_is_entry : Has P w K mg base 2 "is_entry" ["value"] sp_is_entry) : Has P w K mg base 3 "is_record" ["value"] sp_is_record := by
  refine has_of D sc_is_record (fun _ _ _ _ _ _ us hl => match us, hl with | [_], _ => rfl) (fun vs H Q E h => ?_) (fun f cdv A outer s H vs Q E hr h => ?_)
  · obtain ⟨v, r, rfl, _⟩ := h
    rfl
  · obtain ⟨v, es, rfl, ⟨a, xs, rfl, hx, hp⟩, ok, l4, q⟩ := h
    have lx : xs.length = es.length := Paired.len hp
    refine ⟨_, (pss_one (ps_ret (pe_and (pe_callH G_is_listed (hr.mono (by omega)) (by rfl) (pa_cons (pv 0) (pa_cons (pe_glI T.c_MAX_ENTRIES (by rfl)) pa_nil))) (pe_one (pe_callB (cr_all rfl) (by rfl) T.n_all (by decide +kernel) (pa_cons (pe_lc (own := [("entry", 1)]) rfl sc_is_record.nd (pi_seqV 0) (blkOk_by (N := ["value", "entry"]) (sc := defScope s_is_record) (by decide +kernel)) (fun _ _ _ _ _ => (pg_name (i := 1) sc_is_record.nd rfl (by first | exact Or.inl rfl | exact Or.inr rfl))) (fun _ _ _ _ _ => pts_nil) (fun _ _ _ _ _ => (pe_callH G_is_entry (hr.mono (by omega)) (by rfl) (pa_cons (pv 1) pa_nil)))) pa_nil)))))), ?_⟩
    refine ⟨_, rfl, a, xs, 400, rfl, hx, fun H1 s1 => ?_⟩
    rw [decide_eq_true (show (xs.length : Int) ≤ 400 by omega)]
    refine ⟨true, rfl, iteT ?_⟩
    refine ⟨a, xs, rfl, hx.same s1, fun J wk L nL => lc_wk wk (fun i H' => Same H1 H' ∧ H' L = some (.lst ((List.replicate i true).map V.bl))) (fun _ _ p => p.1) ⟨same_upd nL, upd_same⟩ (fun i x H2 ex p => ?_) (fun H2 p => ?_)⟩
    · obtain ⟨sm, hL⟩ := p
      obtain ⟨r, er, hr1⟩ := Paired.at hp ex
      have hi : i < xs.length := (List.getElem?_eq_some_iff.mp ex).1
      refine ⟨rfl, yesT ⟨_, rfl, x, r, rfl, EnG.same (s1.trans sm) hr1, ok r (List.mem_of_getElem? er), fun H3 s3 => ⟨_, s3 _ _ hL, ?_, same_grow nL (sm.trans s3), ?_⟩⟩⟩
      · simp only [List.length_map, List.length_replicate]
        exact small (by omega)
      · rw [upd_same, List.replicate_succ', List.map_append]
        rfl
    · refine ⟨L, _, rfl, .of p.2, ?_⟩
      rw [all_rep]
      exact q _ (s1.trans p.1)
end
end UP

set_option Elab.async false
set_option linter.all false
set_option maxRecDepth 100000
set_option maxHeartbeats 4000000
namespace UP
open PySem PySem.Spec PyProof.Rows L2
section
variable {X : Cx} {K : PySem.W.Frag}
theorem op_notIn_seqK (h : X.K = K) : OpR X (compareOp .NotIn) (rIn K true) := h ▸ op_notIn_seq
theorem op_in_seqK (h : X.K = K) : OpR X (compareOp .In) (rIn K false) := h ▸ op_in_seq
end
def KsOk (ks : List Str) : Prop := 0 < ks.length ∧ ks.length ≤ 12 ∧ (∀ k ∈ ks, KindOk k) ∧ ∀ (i : Nat) (x y : Str), ks[i]? = some x → ks[i + 1]? = some y → x.cps.toList < y.cps.toList
theorem strR_of {x y : Str} (h : x.cps.toList = y.cps.toList) : x = y := by
  cases x with
  | mk a =>
    cases y with
    | mk b =>
      congr 1
      exact Array.ext' h
theorem rising_next : ∀ (l : List Str) (p : Str), risingS p l = true → ∀ (i : Nat) (x y : Str), (p :: l)[i]? = some x → (p :: l)[i + 1]? = some y → ltCps y.cps.toList x.cps.toList = false
  | [], p, _, i, x, y, _, h2 => by simp at h2
  | z :: t, p, h, 0, x, y, h1, h2 => by
    cases h1
    cases h2
    have h : (!ltCps z.cps.toList p.cps.toList && risingS z t) = true := h
    rw [Bool.and_eq_true] at h
    have := h.1
    cases e : ltCps z.cps.toList p.cps.toList with
    | false => rfl
    | true => rw [e] at this; cases this
  | z :: t, p, h, i + 1, x, y, h1, h2 => by
    have h : (!ltCps z.cps.toList p.cps.toList && risingS z t) = true := h
    rw [Bool.and_eq_true] at h
    exact rising_next t z h.2 i x y h1 h2
theorem ks_of {ks : List Str} (l0 : 0 < ks.length) (l1 : ks.length ≤ 12) (ok : ∀ k ∈ ks, KindOk k) (nd : ks.Nodup ∧ sortedS ks = true) : KsOk ks := by
  refine ⟨l0, l1, ok, fun i x y hx hy => ?_⟩
  cases ks with
  | nil => cases hx
  | cons p t =>
    have h := rising_next t p nd.2 i x y hx hy
    rw [ltCps_eq] at h
    have h := of_decide_eq_false h
    by_cases c : x.cps.toList < y.cps.toList
    · exact c
    · exfalso
      have e : x = y := strR_of (List.le_antisymm h c)
      obtain ⟨h1, e1⟩ := List.getElem?_eq_some_iff.mp hx
      obtain ⟨h2, e2⟩ := List.getElem?_eq_some_iff.mp hy
      have i1 := List.Nodup.idxOf_getElem nd.1 i h1
      have i2 := List.Nodup.idxOf_getElem nd.1 (i + 1) h2
      rw [e1, e] at i1
      rw [e2] at i2
      omega
theorem dp_strl {K : PySem.W.Frag} {H : Hp} : ∀ (l : List Str), DpAll K H (l.map V.str) (l.map PyData.str)
  | [] => .nil
  | x :: t => .cons (.str x) (dp_strl t)
theorem shaped_strl {l : List Str} (h : ∀ s ∈ l, KindOk s) : SeqAt.shaped (.list (l.map PyData.str)) = true := by
  have c : ∀ {l : List Str}, (∀ s ∈ l, KindOk s) → PyData.canLayAll0 (l.map PyData.str) = true ∧ PyData.depthAll (l.map PyData.str) ≤ 1 := by
    intro l h
    induction l with
    | nil => exact ⟨by simp [PyData.canLayAll0], by simp [PyData.depthAll]⟩
    | cons x t ih =>
      obtain ⟨h1, h2⟩ := ih fun s hs => h s (List.mem_cons_of_mem _ hs)
      refine ⟨?_, ?_⟩
      · rw [List.map_cons, PyData.canLayAll0, h1]
        simp [PyData.canLay0, (h x (List.mem_cons_self ..)).str]
      · rw [List.map_cons, PyData.depthAll]
        exact Nat.max_le.mpr ⟨by simp [PyData.depth], h2⟩
  obtain ⟨h1, h2⟩ := c h
  unfold SeqAt.shaped
  rw [PyData.canLay0, h1, PyData.depth]
  exact decide_eq_true (by omega)
theorem eqv_nilS (l : List Str) : PyData.eqv (.list (l.map PyData.str)) (.list []) = l.isEmpty := by
  cases l with
  | nil => simp [PyData.eqv, PyData.eqvAll]
  | cons r t => simp [PyData.eqv, PyData.eqvAll]
theorem filter_snoc {p : Str → Bool} {l : List Str} {i : Nat} {x : Str} (h : l[i]? = some x) : (l.take (i + 1)).filter p = (l.take i).filter p ++ if p x = true then [x] else [] := by
  rw [take_snoc h, List.filter_append]
  congr 1
  cases e : p x <;> simp [e]
theorem str_at {ks : List Str} {i : Nat} {x : V} (h : (ks.map V.str)[i]? = some x) : ∃ k, ks[i]? = some k ∧ x = .str k := by
  rw [List.getElem?_map] at h
  cases e : ks[i]? with
  | none =>
    rw [e] at h
    cases h
  | some n =>
    rw [e] at h
    exact ⟨n, rfl, (Option.some.inj h).symm⟩
theorem empty_iff {l : List Str} : l.isEmpty = true ↔ l = [] := by
  cases l <;> simp
section
variable {P : Program} {w : World} {K : PySem.W.Frag} {mg : Str → Option Value} {base : Heap}
/-! is_kinds: slots 0:value 1:kind 2:following -/
abbrev s_is_kinds : Stmt := topS 12
theorem sc_is_kinds : FnScope ["value", "kind", "following"] ["value"] (defScope s_is_kinds) := ⟨rfl, rfl, rfl, by decide +kernel, rfl, by decide +kernel, by decide +kernel⟩
def sp_is_kinds : Sp := fun vs H Q _ => ∃ (a : Addr) (ks : List Str), vs = [.ref a] ∧ Sq2 H a (ks.map V.str) ∧ KsOk ks ∧ ∀ H', Same H H' → Q (.bl true) H'
theorem ok_is_kinds (D : Df K mg "is_kinds" s_is_kinds) (T : Tx mg) (G_is_listed : Has P w K mg base 1 "is_listed" ["value", "most"] sp_is_listed) (G_is_kind : Has P w K mg base 1 "is_kind" ["value"] sp_is_kind) : Has P w K mg base 2 "is_kinds" ["value"] sp_is_kinds := by
  refine has_of D sc_is_kinds (fun _ _ _ _ _ _ us hl => match us, hl with | [_], _ => rfl) (fun vs H Q E h => ?_) (fun f cdv A outer s H vs Q E hr h => ?_)
  · obtain ⟨v, r, rfl, _⟩ := h
    rfl
  · obtain ⟨a, ks, rfl, hx, ⟨l0, l1, okk, asc⟩, q⟩ := h
    refine ⟨_, (pss_cons (ps_if (PW.pt (pw_or (pt_not (pt_val (pe_callH G_is_listed (hr.mono (by omega)) (by rfl) (pa_cons (pv 0) (pa_cons (pe_glI T.c_MAX_KINDS (by rfl)) pa_nil))))) (pw_or (pt_cmpR op_eq (pe_callB call_len_seq (by rfl) T.n_len (by decide +kernel) (pa_cons (pv 0) pa_nil)) pe_int (nomark _)) (pw_or1 (pt_not (pt_val (pe_callB (cr_all rfl) (by rfl) T.n_all (by decide +kernel) (pa_cons (pe_lc (own := [("kind", 1)]) rfl sc_is_kinds.nd (pi_seqV 0) (blkOk_by (N := ["value", "kind", "following"]) (sc := defScope s_is_kinds) (by decide +kernel)) (fun _ _ _ _ _ => (pg_name (i := 1) sc_is_kinds.nd rfl (by first | exact Or.inl rfl | exact Or.inr rfl))) (fun _ _ _ _ _ => pts_nil) (fun _ _ _ _ _ => (pe_callH G_is_kind (hr.mono (by omega)) (by rfl) (pa_cons (pv 1) pa_nil)))) pa_nil)))))))) (pss_one (ps_ret pe_bl)) pss_nil)
    (pss_one (ps_ret (pe_callB (cr_all rfl) (by rfl) T.n_all (by decide +kernel) (pa_cons (pe_lc (own := [("kind", 1), ("following", 2)]) rfl sc_is_kinds.nd (pi_zip1 (i := 0) (RZ.pi_zipA (by rfl) T.n_zip (pa_cons (pv 0) (pa_cons (pe_slice (SlR.or sl_list sl_tupA) (pv 0) (po_some pe_int) po_none) pa_nil))) (fun _ _ _ q => ⟨1, rfl, q⟩) (fun _ _ _ q => q)) (blkOk_by (N := ["value", "kind", "following"]) (sc := defScope s_is_kinds) (by decide +kernel)) (fun _ _ _ _ _ => (pg_tupK (K := K) (n := 2) rfl rfl (pgs_cons (pg_name (i := 1) sc_is_kinds.nd rfl (by first | exact Or.inl rfl | exact Or.inr rfl)) (pgs_cons (pg_name (i := 2) sc_is_kinds.nd rfl (by first | exact Or.inl rfl | exact Or.inr rfl)) pgs_nil)))) (fun _ _ _ _ _ => pts_nil) (fun _ _ _ _ _ => (pe_cmpR op_lt_str (pv 1) (pv 2) (nomark _)))) pa_nil))))), ?_⟩
    refine ⟨_, rfl, a, _, 12, rfl, hx, fun H1 s1 => ⟨_, rfl, iteN ?_ ?_⟩⟩
    · show (!decide (((ks.map V.str).length : Int) ≤ 12)) = false
      rw [List.length_map, decide_eq_true (by omega)]
      rfl
    refine ⟨_, rfl, a, _, rfl, (hx.same s1).elim (fun z => .inl (.of z)) (fun z => .inr (.of z)), rfl, _, rfl, iteN ?_ ?_⟩
    · refine decide_eq_false fun z => ?_
      have z := V.int.inj z
      rw [List.length_map] at z
      omega
    refine ⟨a, _, rfl, hx.same s1, fun J wk L nL => lc_wk wk (fun i H' => Same H1 H' ∧ H' L = some (.lst ((List.replicate i true).map V.bl))) (fun _ _ p => p.1) ⟨same_upd nL, upd_same⟩ (fun i x H2 ex p => ?_) (fun H2 p => ?_)⟩
    · obtain ⟨sm, hL⟩ := p
      obtain ⟨k, ek, rfl⟩ := str_at ex
      have hi : i < ks.length := (List.getElem?_eq_some_iff.mp ek).1
      refine ⟨rfl, yesT ⟨_, rfl, k, rfl, okk k (List.mem_of_getElem? ek), fun H3 s3 => ⟨_, s3 _ _ hL, ?_, same_grow nL (sm.trans s3), ?_⟩⟩⟩
      · simp only [List.length_map, List.length_replicate]
        exact small (by omega)
      · rw [upd_same, List.replicate_succ', List.map_append]
        rfl
    · refine ⟨L, _, rfl, .of p.2, _, rfl, iteN ?_ ?_⟩
      · rw [all_rep]
        rfl
      have s2 : Same H H2 := s1.trans p.1
      refine ⟨a, _, rfl, hx.same s2, fun J Hc sc wk M nM => ?_⟩
      have sA : Same H Hc := s2.trans sc
      refine lc_gen (n := (ks.map V.str).length - 1) (fun i H' => Same Hc H' ∧ H' M = some (.lst ((List.replicate i true).map V.bl))) ⟨same_upd nM, upd_same⟩ (fun i H' hi p => wk.go i H' p.1 (by omega)) (fun H' p => wk.stop H' p.1) (fun i x H3 H4 hi p y => ?_) (fun H' p => ?_)
      · obtain ⟨T', x1, x2, rfl, nT, rfl, g1, g2⟩ := wk.yld i x H3 H4 p.1 y
        obtain ⟨sm, hM⟩ := p
        have g2 := g2 (by omega)
        obtain ⟨k1, e1, rfl⟩ := str_at g1
        obtain ⟨k2, e2, rfl⟩ := str_at g2
        have hi2 : i < ks.length := (List.getElem?_eq_some_iff.mp e1).1
        refine ⟨T', _, rfl, .of upd_same, rfl, _, _, rfl, _, _, rfl, rfl, rfl, yesT ?_⟩
        refine ⟨_, rfl, _, rfl, _, _, rfl, rfl, _, same_upd nT _ _ hM, ?_, same_grow nM (sm.trans (same_upd nT)), ?_⟩
        · simp only [List.length_map, List.length_replicate]
          exact small (by omega)
        · rw [upd_same, List.replicate_succ', List.map_append, decide_eq_true (asc i k1 k2 e1 e2)]
          rfl
      · refine ⟨M, _, rfl, .of p.2, ?_⟩
        rw [all_rep]
        exact q _ (sA.trans p.1)
/-! check_kinds: slots 0:kinds -/
abbrev s_check_kinds : Stmt := topS 13
theorem sc_check_kinds : FnScope ["kinds"] ["kinds"] (defScope s_check_kinds) := ⟨rfl, rfl, rfl, by decide +kernel, rfl, by decide +kernel, by decide +kernel⟩
def sp_check_kinds : Sp := fun vs H Q _ => ∃ (a : Addr) (ks : List Str), vs = [.ref a] ∧ Sq2 H a (ks.map V.str) ∧ KsOk ks ∧ ∀ H', Same H H' → Q .non H'
theorem ok_check_kinds (D : Df K mg "check_kinds" s_check_kinds) (G_is_kinds : Has P w K mg base 2 "is_kinds" ["value"] sp_is_kinds) : Has P w K mg base 3 "check_kinds" ["kinds"] sp_check_kinds := by
  refine has_of D sc_check_kinds (fun _ _ _ _ _ _ us hl => match us, hl with | [_], _ => rfl) (fun vs H Q E h => ?_) (fun f cdv A outer s H vs Q E hr h => ?_)
  · obtain ⟨v, r, rfl, _⟩ := h
    rfl
  · obtain ⟨a, ks, rfl, hx, ok, q⟩ := h
    refine ⟨_, (pss_one (ps_if (pt_not (pt_val (pe_callH G_is_kinds (hr.mono (by omega)) (by rfl) (pa_cons (pv 0) pa_nil)))) (pss_one ps_never) pss_nil)), ?_⟩
    exact ⟨_, rfl, a, ks, rfl, hx, ok, fun H1 s1 => ⟨_, rfl, iteF (q _ s1)⟩⟩
end
end UP
set_option Elab.async false
set_option linter.all false
set_option maxRecDepth 100000
set_option maxHeartbeats 4000000
set_option pp.maxSteps 600
namespace UP
open PySem PySem.Spec PyProof.Rows L2
/-! ### records: the mathematics -/
def nxtE (l : Nat) (e : En) : Nat := if e.2 = true then l + 1 else l - 1
/-- what is left of the epoch under way, and the epochs behind it -/
def splE : Nat → List En → List En × List (List En)
  | _, [] => ([], [])
  | l, e :: t => if l = 0 then ([], (e :: (splE (nxtE l e) t).1) :: (splE (nxtE l e) t).2) else (e :: (splE (nxtE l e) t).1, (splE (nxtE l e) t).2)
def epsE (es : List En) : List (List En) := (splE 0 es).2
def lvlE : Nat → List En → Nat
  | l, [] => l
  | l, e :: t => lvlE (nxtE l e) t
theorem lvlE_app (l : Nat) (a b : List En) : lvlE l (a ++ b) = lvlE (lvlE l a) b := by
  induction a generalizing l with
  | nil => rfl
  | cons e t ih => exact ih _
theorem spl_zero (es : List En) : (splE 0 es).1 = [] := by
  cases es with
  | nil => rfl
  | cons e t => rw [splE, if_pos rfl]
/-- the epochs so far, and what comes -/
def attE (eps : List (List En)) (l : Nat) (r : List En × List (List En)) : List (List En) := if l = 0 then eps ++ r.2 else eps.dropLast ++ (eps.getLastD [] ++ r.1) :: r.2
/-- one entry more -/
def putE (eps : List (List En)) (l : Nat) (e : En) : List (List En) := if l = 0 then eps ++ [[e]] else eps.dropLast ++ [eps.getLastD [] ++ [e]]
def goE : List (List En) → Nat → List En → List (List En)
  | eps, _, [] => eps
  | eps, l, e :: t => goE (putE eps l e) (nxtE l e) t
theorem goE_app : ∀ (a b : List En) (eps : List (List En)) (l : Nat), goE eps l (a ++ b) = goE (goE eps l a) (lvlE l a) b
  | [], _, _, _ => rfl
  | e :: t, b, eps, l => goE_app t b _ _
theorem putE_ne (eps : List (List En)) (l : Nat) (e : En) : putE eps l e ≠ [] := by
  unfold putE
  split <;> simp
theorem goE_eq : ∀ (es : List En) (eps : List (List En)) (l : Nat), (l ≠ 0 → eps ≠ []) → goE eps l es = attE eps l (splE l es)
  | [], eps, l, h => by
    unfold attE
    rw [splE]
    split
    · rw [List.append_nil]
      rfl
    · next c =>
      have hn := h c
      rw [List.append_nil]
      show eps = _
      have : eps.getLastD [] = eps.getLast hn := by
        rw [List.getLastD_eq_getLast?, List.getLast?_eq_some_getLast hn]
        rfl
      rw [this]
      exact (List.dropLast_concat_getLast hn).symm
  | e :: t, eps, l, h => by
    rw [goE, goE_eq t _ _ (fun _ => putE_ne _ _ _), splE]
    by_cases c : l = 0
    · rw [if_pos c]
      unfold attE putE
      rw [if_pos c, if_pos c]
      by_cases c2 : nxtE l e = 0
      · rw [if_pos c2, c2, spl_zero]
        simp
      · rw [if_neg c2]
        simp
    · rw [if_neg c]
      unfold attE putE
      rw [if_neg c, if_neg c]
      by_cases c2 : nxtE l e = 0
      · rw [if_pos c2, c2, spl_zero]
        simp
      · rw [if_neg c2]
        simp
theorem go_eps (es : List En) : goE [] 0 es = epsE es := by
  rw [goE_eq es [] 0 (fun h => absurd rfl h)]
  unfold attE epsE
  rw [if_pos rfl, List.nil_append]
/-- the epochs one behind the other are the record -/
theorem spl_join : ∀ (es : List En) (l : Nat), (splE l es).1 ++ (splE l es).2.flatten = es
  | [], _ => rfl
  | e :: t, l => by
    rw [splE]
    split
    · show [] ++ ((e :: (splE (nxtE l e) t).1) :: (splE (nxtE l e) t).2).flatten = _
      rw [List.flatten_cons, List.nil_append, List.cons_append, spl_join t]
    · rw [List.cons_append, spl_join t]
theorem eps_join (es : List En) : (epsE es).flatten = es := by
  have := spl_join es 0
  rw [spl_zero] at this
  exact this
theorem spl_ne : ∀ (es : List En) (l : Nat), ∀ ep ∈ (splE l es).2, ep ≠ []
  | [], _, ep, h => by cases h
  | e :: t, l, ep, h => by
    rw [splE] at h
    split at h
    · rcases List.mem_cons.mp h with z | z
      · rw [z]; simp
      · exact spl_ne t _ ep z
    · exact spl_ne t _ ep h
theorem eps_ne {es : List En} : ∀ ep ∈ epsE es, ep ≠ [] := spl_ne es 0
theorem eps_len (es : List En) : (epsE es).length ≤ es.length := by
  have h := congrArg List.length (eps_join es)
  rw [List.length_flatten] at h
  have gen : ∀ (L : List (List En)), (∀ ep ∈ L, ep ≠ []) → L.length ≤ (L.map List.length).sum := by
    intro L
    induction L with
    | nil => intro _; exact Nat.le_refl _
    | cons a t ih =>
      intro k
      have h1 := List.length_pos_iff.mpr (k a (List.mem_cons_self ..))
      have h2 := ih fun ep he => k ep (List.mem_cons_of_mem _ he)
      rw [List.map_cons, List.sum_cons, List.length_cons]
      omega
  have := gen (epsE es) eps_ne
  omega
theorem eps_mem {es ep : List En} (h : ep ∈ epsE es) : ∀ e ∈ ep, e ∈ es := fun e he => by
  rw [← eps_join es]
  exact List.mem_flatten.mpr ⟨ep, h, he⟩
theorem ep_len {es ep : List En} (h : ep ∈ epsE es) : ep.length ≤ es.length := by
  have e := congrArg List.length (eps_join es)
  rw [List.length_flatten] at e
  have : ep.length ≤ ((epsE es).map List.length).sum := by
    have gen : ∀ (L : List (List En)), ep ∈ L → ep.length ≤ (L.map List.length).sum := by
      intro L
      induction L with
      | nil => intro h; cases h
      | cons a t ih =>
        intro h
        rw [List.map_cons, List.sum_cons]
        rcases List.mem_cons.mp h with z | z
        · rw [z]; omega
        · have := ih z
          omega
    exact gen _ h
  omega
/-! ### options -/
def knE (ep : List En) (b : Bool) : List Str := ep.filterMap fun e => if e.2 = b then e.1 else none
def optW (ks : List Str) (ep : List En) : List Str := match ep with
  | [] => []
  | e :: _ => if e.2 = true then ks.filter (fun k => !(decide (k ∈ knE ep false)) && (knE ep true).all fun w => decide (k = w)) else []
def optL (ks : List Str) (w : Str) (e : En) : List Str := if e.2 = true then [w] else match e.1 with
  | none => ks.filter fun k => !decide (k = w)
  | some k => [k]
def numP (ks : List Str) (ep : List En) : List Nat := (optW ks ep).length :: ep.tail.map fun e => (optL ks (ks.headD "") e).length
def numE (ks : List Str) (es : List En) : List Nat := (epsE es).flatMap (numP ks)
def prodN (l : List Nat) : Nat := l.foldl (· * ·) 1
def cntE (ks : List Str) (es : List En) : Nat := prodN (numE ks es)
def optP (ks : List Str) (ep : List En) (w : Str) : List (List Str) := optW ks ep :: ep.tail.map (optL ks w)
def optE (ks : List Str) : List (List En) → List Str → List (List Str)
  | [], _ => []
  | ep :: r, its => optP ks ep (its.headD "") ++ optE ks r (its.drop ep.length)
end UP

set_option Elab.async false
set_option linter.all false
set_option maxRecDepth 100000
set_option maxHeartbeats 4000000
set_option pp.maxSteps 900
namespace UP
open PySem PySem.Spec PyProof.Rows L2
theorem cr_allK {X : Cx} {K : PySem.W.Frag} (h : X.K = K) (hc : X.calm = true) : CallR X (.builtin "all") (rAll K) := h ▸ cr_all hc
def InK (ks : List Str) (es : List En) : Prop := ∀ e ∈ es, ∀ k, e.1 = some k → k ∈ ks
theorem flat_strs (ks : List Str) : (ks.map V.str).all flatV = true := by
  rw [List.all_map, List.all_eq_true]
  intro k _
  rfl
theorem inV_strs (k : Str) (ks : List Str) : inV (.str k) (ks.map V.str) = decide (k ∈ ks) := by
  unfold inV
  rw [List.any_map]
  induction ks with
  | nil => rfl
  | cons x t ih =>
    rw [List.any_cons, ih]
    by_cases e : k = x
    · subst e
      simp [eqV]
    · have e2 : ¬ x = k := fun z => e z.symm
      simp [eqV, e, e2]
theorem filt_snoc {α : Type} {p : α → Bool} {l : List α} {i : Nat} {x : α} (h : l[i]? = some x) : (l.take (i + 1)).filter p = (l.take i).filter p ++ if p x = true then [x] else [] := by
  rw [take_snoc h, List.filter_append]
  congr 1
  cases e : p x <;> simp [e]
theorem act_eq (x b : Bool) : decide (V.str (actS x) = V.str (actS b)) = decide (x = b) := by
  cases x <;> cases b <;> decide +kernel
theorem str_dec (a b : Str) : decide (V.str a = V.str b) = decide (a = b) := decide_eq_decide.mpr ⟨fun h => V.str.inj h, fun h => congrArg V.str h⟩
theorem kn_snoc {es : List En} {i : Nat} {e : En} {b : Bool} (h : es[i]? = some e) : knE (es.take (i + 1)) b = knE (es.take i) b ++ (if e.2 = b then e.1 else none).toList := by
  unfold knE
  rw [take_snoc h, List.filterMap_append]
  congr 1
  all_goals (rw [List.filterMap_cons, List.filterMap_nil]; cases (if e.2 = b then e.1 else none) <;> rfl)
theorem kn_len (es : List En) (b : Bool) : (knE es b).length ≤ es.length := List.length_filterMap_le _ _
theorem yes_non : (!decide (V.non = V.non)) = false := by rw [decide_eq_true rfl]; rfl
theorem no_non (k : Str) : (!decide (V.str k = V.non)) = true := by rw [decide_eq_false (fun z => by cases z)]; rfl
theorem if_gen {c : TT} {t u rest : TS} {D : Ends} {σ : L2.St} {H : Hp} (Ok : L2.St → Hp → Prop) (h : ∀ R : L2.St → Hp → Prop, (∀ σ' H', Ok σ' H' → R σ' H') → tIfS c t u { D with nx := R } σ H) (k : ∀ σ' H', Ok σ' H' → rest D σ' H') : tSeq (tIfS c t u) rest D σ H := h (rest D) k
theorem EnV.grow {H : Hp} {D : Addr} {acc : List V} {o : HO} {v : V} {e : En} (hD : H D = some (.lst acc)) (h : EnV H v e) : EnV (upd H D o) v e := h.tk fun t xs z => by
  rw [upd_ne (ne_of z hD (by intro y; cases y))]
  exact z
theorem paired_last {α β : Type} {F : α → β → Prop} : ∀ {xs : List α} {ys : List β}, Paired F xs ys → xs ≠ [] → ∃ xi x yi y, xs = xi ++ [x] ∧ ys = yi ++ [y] ∧ Paired F xi yi ∧ F x y
  | _, _, .nil, h => absurd rfl h
  | [x], [y], .cons h .nil, _ => ⟨[], x, [], y, rfl, rfl, .nil, h⟩
  | x :: x2 :: t, y :: y2 :: u, .cons h p, _ => by
    obtain ⟨xi, x', yi, y', e1, e2, h1, h2⟩ := paired_last p (by simp)
    exact ⟨x :: xi, x', y :: yi, y', by rw [e1]; rfl, by rw [e2]; rfl, .cons h h1, h2⟩
/-! ### epochs in the heap -/
def EpV (H : Hp) (v : V) (ep : List En) : Prop := ∃ t, v = .ref t ∧ Rec H t ep
def Eps (H : Hp) (p : Addr) (L : List (List En)) : Prop := ∃ refs, H p = some (.lst refs) ∧ Paired (EpV H) refs L
theorem EpV.same {H H' : Hp} {v : V} {ep : List En} (s : Same H H') (h : EpV H v ep) : EpV H' v ep := by
  obtain ⟨t, e, h⟩ := h
  exact ⟨t, e, h.same s⟩
theorem Eps.same {H H' : Hp} {p : Addr} {L : List (List En)} (s : Same H H') (h : Eps H p L) : Eps H' p L := by
  obtain ⟨refs, e, h⟩ := h
  exact ⟨refs, s _ _ e, Paired.imp (fun _ _ z => EpV.same s z) h⟩
theorem EpV.grow {H : Hp} {D : Addr} {acc : List V} {o : HO} {t : Addr} {ep : List En} (hD : H D = some (.lst acc)) (n : t ≠ D) (h : EpV H (.ref t) ep) : EpV (upd H D o) (.ref t) ep := by
  obtain ⟨t', e, xs, hx, hp⟩ := h
  cases e
  exact ⟨t, rfl, xs, by rw [upd_ne n]; exact hx, Paired.imp (fun _ _ z => EnV.grow hD z) hp⟩
theorem eps_grow {H : Hp} {D : Addr} {acc : List V} {o : HO} (hD : H D = some (.lst acc)) {refs : List V} {L : List (List En)} (h : Paired (EpV H) refs L) : (∀ t, V.ref t ∈ refs → t ≠ D) → Paired (EpV (upd H D o)) refs L := by
  induction h with
  | nil => intro _; exact .nil
  | @cons x ep _ _ h _ ih =>
    intro n
    obtain ⟨t, rfl, hr⟩ := h
    exact .cons (EpV.grow hD (n t (List.mem_cons_self ..)) ⟨t, rfl, hr⟩) (ih fun t ht => n t (List.mem_cons_of_mem _ ht))
section
variable {P : Program} {w : World} {K : PySem.W.Frag} {mg : Str → Option Value} {base : Heap}
/-! checked_entries: slots 0:kinds 1:record 2:kind 3:action -/
abbrev s_checked_entries : Stmt := topS 19
theorem sc_checked_entries : FnScope ["kinds", "record", "kind", "action"] ["kinds", "record"] (defScope s_checked_entries) := ⟨rfl, rfl, rfl, by decide +kernel, rfl, by decide +kernel, by decide +kernel⟩
def sp_checked_entries : Sp := fun vs H Q _ => ∃ (a : Addr) (v : V) (ks : List Str) (es : List En), vs = [.ref a, v] ∧ Sq2 H a (ks.map V.str) ∧ KsOk ks ∧ RecG H v es ∧ InK ks es ∧ es.length ≤ 400 ∧ ∀ H' p, Same H H' → H p = none → Rec H' p es → Q (.ref p) H'
theorem ok_checked_entries (D : Df K mg "checked_entries" s_checked_entries) (T : Tx mg) (G_check_kinds : Has P w K mg base 3 "check_kinds" ["kinds"] sp_check_kinds) (G_is_record : Has P w K mg base 3 "is_record" ["value"] sp_is_record) : Has P w K mg base 4 "checked_entries" ["kinds", "record"] sp_checked_entries := by
  refine has_of D sc_checked_entries (fun _ _ _ _ _ _ us hl => match us, hl with | [_, _], _ => rfl) (fun vs H Q E h => ?_) (fun f cdv A outer s H vs Q E hr h => ?_)
  · obtain ⟨_, _, _, _, rfl, _⟩ := h
    rfl
  · obtain ⟨a, v, ks, es, rfl, ha, kso, hv, ink, l4, q⟩ := h
    refine ⟨_, (pss_cons (ps_expr (pe_callH G_check_kinds (hr.mono (by omega)) (by rfl) (pa_cons (pv 0) pa_nil)))
    (pss_cons (ps_if (pt_not (pt_val (pe_callH G_is_record (hr.mono (by omega)) (by rfl) (pa_cons (pv 1) pa_nil)))) (pss_one ps_never) pss_nil)
    (pss_cons (ps_if (pt_not (pt_val (pe_callB (cr_all rfl) (by rfl) T.n_all (by decide +kernel) (pa_cons (pe_lc (own := [("kind", 2), ("action", 3)]) rfl sc_checked_entries.nd (pi_seqV 1) (blkOk_by (N := ["kinds", "record", "kind", "action"]) (sc := defScope s_checked_entries) (by decide +kernel)) (fun _ _ _ _ _ => (pg_any (n := 2) rfl (pgs_cons (pg_name (i := 2) sc_checked_entries.nd rfl (by first | exact Or.inl rfl | exact Or.inr rfl)) (pgs_cons (pg_name (i := 3) sc_checked_entries.nd rfl (by first | exact Or.inl rfl | exact Or.inr rfl)) pgs_nil)))) (fun _ _ _ _ _ => pts_nil) (fun _ _ _ _ _ => (pe_or (pe_cmpR op_isN (pv 2) pe_non (nomark _)) (pe_one (pe_cmpR (op_in_seqK (K := K) rfl) (pv 2) (pv 0) (by with_unfolding_all rfl)))))) pa_nil)))) (pss_one ps_never) pss_nil)
    (pss_one (ps_ret (pe_lc (own := [("kind", 2), ("action", 3)]) rfl sc_checked_entries.nd (pi_seqV 1) (blkOk_by (N := ["kinds", "record", "kind", "action"]) (sc := defScope s_checked_entries) (by decide +kernel)) (fun _ _ _ _ _ => (pg_any (n := 2) rfl (pgs_cons (pg_name (i := 2) sc_checked_entries.nd rfl (by first | exact Or.inl rfl | exact Or.inr rfl)) (pgs_cons (pg_name (i := 3) sc_checked_entries.nd rfl (by first | exact Or.inl rfl | exact Or.inr rfl)) pgs_nil)))) (fun _ _ _ _ _ => pts_nil) (fun _ _ _ _ _ => (pe_tup (pa_cons (pv 2) (pa_cons (pv 3) pa_nil)))))))))), ?_⟩
    have ok : ∀ e ∈ es, EnOk e := fun e he k hk => kso.2.2.1 k (ink e he k hk)
    refine ⟨_, rfl, a, ks, rfl, ha, kso, fun H1 s1 => ?_⟩
    refine ⟨_, rfl, v, es, rfl, hv.same s1, ok, l4, fun H2 s2 => ⟨true, rfl, iteF ?_⟩⟩
    have s12 := s1.trans s2
    obtain ⟨b, xs, rfl, hx, hp⟩ := hv
    have lx : xs.length = es.length := Paired.len hp
    refine ⟨b, xs, rfl, hx.same s12, fun J wk L nL => lc_wk wk (fun i H' => Same H2 H' ∧ H' L = some (.lst ((List.replicate i true).map V.bl))) (fun _ _ p => p.1) ⟨same_upd nL, upd_same⟩ (fun i x H3 ex p => ?_) (fun H3 p => ?_)⟩
    · obtain ⟨sm, hL⟩ := p
      obtain ⟨e, ee, hr1⟩ := Paired.at hp ex
      obtain ⟨t, rfl, ht⟩ := EnG.same (s12.trans sm) hr1
      have hi : i < xs.length := (List.getElem?_eq_some_iff.mp ex).1
      have fin : (List.map V.bl (List.replicate i true)).length < sizeLine ∧ Same H2 (upd H3 L (.lst (List.map V.bl (List.replicate i true) ++ [V.bl true]))) ∧ (upd H3 L (.lst (List.map V.bl (List.replicate i true) ++ [V.bl true]))) L = some (.lst ((List.replicate (i + 1) true).map V.bl)) := by
        refine ⟨?_, same_grow nL sm, ?_⟩
        · simp only [List.length_map, List.length_replicate]
          exact small (by omega)
        · rw [upd_same, List.replicate_succ', List.map_append]
          rfl
      refine ⟨t, _, rfl, ht, rfl, _, _, rfl, _, _, rfl, rfl, rfl, yesT ?_⟩
      obtain ⟨k, c⟩ := e
      cases k with
      | none => exact ⟨_, rfl, rfl, _, rfl, iteP (decide_eq_true rfl) ⟨_, hL, fin⟩⟩
      | some k =>
        refine ⟨_, rfl, rfl, _, rfl, iteN (decide_eq_false (fun z => by cases z)) ⟨_, rfl, _, rfl, a, _, rfl, ((ha.same s12).same sm).elim (fun z => .inl (.of z)) (fun z => .inr (.of z)), rfl, flat_strs ks, ?_⟩⟩
        have e9 : inV (koV (some k)) (ks.map V.str) = true := by
          show inV (.str k) _ = true
          rw [inV_strs]
          exact decide_eq_true (ink _ (List.mem_of_getElem? ee) k rfl)
        show (fun y H4 => _) (V.bl (inV (koV (some k)) (ks.map V.str))) H3
        rw [e9]
        exact ⟨_, hL, fin⟩
    obtain ⟨s3, hL⟩ := p
    refine ⟨L, _, rfl, .of hL, ?_⟩
    rw [all_rep]
    refine ⟨true, rfl, iteF ?_⟩
    have s13 := s12.trans s3
    refine ⟨b, xs, rfl, hx.same s13, fun J wk L nL => lc_wk wk (fun i H' => Same H3 H' ∧ ∃ ys, H' L = some (.lst ys) ∧ Paired (EnV H') ys (es.take i)) (fun _ _ p => p.1) ⟨same_upd nL, [], upd_same, .nil⟩ (fun i x H4 ex p => ?_) (fun H4 p => ?_)⟩
    · obtain ⟨sm, ys, hL, hy⟩ := p
      obtain ⟨e, ee, hr1⟩ := Paired.at hp ex
      obtain ⟨t, rfl, ht⟩ := EnG.same (s13.trans sm) hr1
      have hi : i < xs.length := (List.getElem?_eq_some_iff.mp ex).1
      refine ⟨t, _, rfl, ht, rfl, _, _, rfl, _, _, rfl, rfl, rfl, yesT ⟨_, rfl, _, rfl, (by show 2 ≤ sizeLine; decide), fun n nn => ⟨ys, same_upd nn _ _ hL, ?_, same_grow nL (sm.trans (same_upd nn)), ys ++ [.ref n], upd_same, ?_⟩⟩⟩
      · have := Paired.len hy
        rw [List.length_take] at this
        exact small (by omega)
      · rw [take_snoc ee]
        exact Paired.app (Paired.imp (fun _ _ z => EnV.grow (same_upd nn _ _ hL) (EnV.same (same_upd nn) z)) hy) (.cons (EnV.grow (same_upd nn _ _ hL) ⟨n, rfl, upd_same⟩) .nil)
    · obtain ⟨sm, ys, hL, hy⟩ := p
      rw [lx, List.take_length] at hy
      exact q _ _ (s13.trans sm) (s13.free nL) ⟨ys, hL, hy⟩
/-! known_kinds: slots 0:entries 1:wanted 2:kind 3:action -/
abbrev s_known_kinds : Stmt := topS 20
theorem sc_known_kinds : FnScope ["entries", "wanted", "kind", "action"] ["entries", "wanted"] (defScope s_known_kinds) := ⟨rfl, rfl, rfl, by decide +kernel, rfl, by decide +kernel, by decide +kernel⟩
def sp_known_kinds : Sp := fun vs H Q _ => ∃ (a : Addr) (es : List En) (b : Bool), vs = [.ref a, .str (actS b)] ∧ Rec H a es ∧ es.length ≤ 400 ∧ ∀ H' p, Same H H' → H p = none → H' p = some (.lst ((knE es b).map V.str)) → Q (.ref p) H'
theorem ok_known_kinds (D : Df K mg "known_kinds" s_known_kinds) : Has P w K mg base 1 "known_kinds" ["entries", "wanted"] sp_known_kinds := by
  refine has_of D sc_known_kinds (fun _ _ _ _ _ _ us hl => match us, hl with | [_, _], _ => rfl) (fun vs H Q E h => ?_) (fun f cdv A outer s H vs Q E hr h => ?_)
  · obtain ⟨_, _, _, rfl, _⟩ := h
    rfl
  · obtain ⟨a, es, b, rfl, ⟨xs, hx, hp⟩, l4, q⟩ := h
    refine ⟨_, (pss_one (ps_ret (pe_lc (own := [("kind", 2), ("action", 3)]) rfl sc_known_kinds.nd (pi_list (pv 0)) (blkOk_by (N := ["entries", "wanted", "kind", "action"]) (sc := defScope s_known_kinds) (by decide +kernel)) (fun _ _ _ _ _ => (pg_tupK (K := K) (n := 2) rfl rfl (pgs_cons (pg_name (i := 2) sc_known_kinds.nd rfl (by first | exact Or.inl rfl | exact Or.inr rfl)) (pgs_cons (pg_name (i := 3) sc_known_kinds.nd rfl (by first | exact Or.inl rfl | exact Or.inr rfl)) pgs_nil)))) (fun _ _ _ _ _ => pts_one (PW.pt (pw_and (pt_cmpR op_eq (pv 3) (pv 1) (nomark _)) (pw_and1 (pt_cmpR op_notN (pv 2) pe_non (nomark _)))))) (fun _ _ _ _ _ => (pv 2))))), ?_⟩
    have lx := Paired.len hp
    refine ⟨_, rfl, a, rfl, ⟨xs, .of hx⟩, fun L nL => lc_list (K := K) (a := a) (xs := xs) (fun i H' => Same H H' ∧ H' L = some (.lst ((knE (es.take i) b).map V.str))) ⟨same_upd nL, upd_same⟩ (fun i H' _ p => .of (p.1 _ _ hx)) (fun i x H1 ex hP => ?_) (fun H1 hP => ?_)⟩
    · obtain ⟨sm, hL⟩ := hP
      obtain ⟨e, ee, hr1⟩ := Paired.at hp ex
      obtain ⟨t, rfl, ht⟩ := EnV.same sm hr1
      have hi : i < xs.length := (List.getElem?_eq_some_iff.mp ex).1
      refine ⟨t, _, rfl, .of ht, rfl, _, _, rfl, _, _, rfl, rfl, rfl, _, rfl, _, rfl, rfl, _, rfl, ?_⟩
      rw [kn_snoc ee]
      obtain ⟨k, c⟩ := e
      by_cases hc : c = b
      · subst hc
        refine iteP (decide_eq_true rfl) ⟨_, rfl, rfl, _, rfl, ?_⟩
        rw [if_pos rfl]
        cases k with
        | none =>
          refine iteN yes_non ⟨sm, ?_⟩
          show _ = some (HO.lst ((_ ++ []).map V.str))
          rw [List.append_nil]
          exact hL
        | some k =>
          refine iteP (no_non k) ⟨_, rfl, _, hL, ?_, same_grow nL sm, ?_⟩
          · have h1 := kn_len (es.take i) c
            rw [List.length_take] at h1
            rw [List.length_map]
            exact small (by omega)
          · rw [upd_same, List.map_append]
            rfl
      · refine iteN ((act_eq c b).trans (decide_eq_false hc)) (iteF ⟨sm, ?_⟩)
        rw [if_neg hc]
        show _ = some (HO.lst ((_ ++ []).map V.str))
        rw [List.append_nil]
        exact hL
    · obtain ⟨sm, hL⟩ := hP
      rw [lx, List.take_length] at hL
      exact q _ _ sm nL hL
/-! epochs_of: slots 0:entries 1:epochs 2:level 3:kind 4:action -/
abbrev s_epochs_of : Stmt := topS 21
theorem sc_epochs_of : FnScope ["entries", "epochs", "level", "kind", "action"] ["entries"] (defScope s_epochs_of) := ⟨rfl, rfl, rfl, by decide +kernel, rfl, by decide +kernel, by decide +kernel⟩
def sp_epochs_of : Sp := fun vs H Q _ => ∃ (a : Addr) (es : List En), vs = [.ref a] ∧ Rec H a es ∧ es.length ≤ 400 ∧ ∀ H' p refs, Same H H' → H p = none → H' p = some (.lst refs) → Paired (EpV H') refs (epsE es) → (∀ t, V.ref t ∈ refs → H t = none) → Q (.ref p) H'
theorem ok_epochs_of (D : Df K mg "epochs_of" s_epochs_of) (T : Tx mg) : Has P w K mg base 1 "epochs_of" ["entries"] sp_epochs_of := by
  refine has_of D sc_epochs_of (fun _ _ _ _ _ _ us hl => match us, hl with | [_], _ => rfl) (fun vs H Q E h => ?_) (fun f cdv A outer s H vs Q E hr h => ?_)
  · obtain ⟨_, _, rfl, _⟩ := h
    rfl
  · obtain ⟨a, es, rfl, ⟨xs, hx, hp⟩, l4, q⟩ := h
    have lx := Paired.len hp
    refine ⟨_, (pss_cons (ps_set (i := 1) sc_epochs_of.nd rfl (by first | exact Or.inl rfl | exact Or.inr rfl) (pe_lst pa_nil))
    (pss_cons (ps_set (i := 2) sc_epochs_of.nd rfl (by first | exact Or.inl rfl | exact Or.inr rfl) pe_int)
    (pss_cons (ps_for PassesOwn.never rfl (pi_list (pv 0)) (pg_tup rfl (pgs_cons (pg_name (i := 3) sc_epochs_of.nd rfl (by first | exact Or.inl rfl | exact Or.inr rfl)) (pgs_cons (pg_name (i := 4) sc_epochs_of.nd rfl (by first | exact Or.inl rfl | exact Or.inr rfl)) pgs_nil)))
      (pss_cons (ps_if (pt_cmpR op_eq (pv 2) pe_int (nomark _)) (pss_one (ps_expr (pe_bm PySem.F.plainAttrs_list PySem.F.slot_list_append PySem.F.type_list_append mt_append (pv 1) (pa_cons (pe_lst pa_nil) pa_nil)))) pss_nil)
    (pss_cons (ps_expr (pe_bm PySem.F.plainAttrs_list PySem.F.slot_list_append PySem.F.type_list_append mt_append (pe_ix ix_list (pv 1) (pe_un un_neg pe_int) (fun _ _ => rfl)) (pa_cons (pe_tup (pa_cons (pv 3) (pa_cons (pv 4) pa_nil))) pa_nil)))
    (pss_one (ps_set (i := 2) sc_epochs_of.nd rfl (by first | exact Or.inl rfl | exact Or.inr rfl) (pe_ifExp (pt_cmpR op_eq (pv 4) pe_str (nomark _)) (pe_op op_add (pv 2) pe_int) (pe_callB (call_max2 rfl) (by rfl) T.n_max (by decide +kernel) (pa_cons (pe_op op_sub (pv 2) pe_int) (pa_cons pe_int pa_nil)))))))))
    (pss_one (ps_ret (pv 1)))))), ?_⟩
    refine ⟨Nat.zero_le _, fun E0 nE => ?_⟩
    have aE : a ≠ E0 := ne_of_none hx nE
    refine ⟨_, rfl, a, rfl, ⟨xs, .of (same_upd nE _ _ hx)⟩, for_list (K := K) (a := a) (xs := xs) (fun i σ H' => ∃ refs y3 y4, σ = [some (.ref a), some (.ref E0), some (.int ((lvlE 0 (es.take i) : Nat) : Int)), y3, y4] ∧ Same H H' ∧ H' E0 = some (.lst refs) ∧ Paired (EpV H') refs (goE [] 0 (es.take i)) ∧ refs.Nodup ∧ (∀ t, V.ref t ∈ refs → H t = none ∧ t ≠ E0) ∧ refs.length ≤ i)
      ⟨[], none, none, rfl, same_upd nE, upd_same, .nil, List.nodup_nil, (fun t h => by cases h), Nat.le_refl _⟩ (fun i σ H' _ hP => ?_) (fun i x σ H1 ex hP => ?_) (fun σ H1 hP => ?_)⟩
    · obtain ⟨_, _, _, _, sm, _⟩ := hP
      exact .of (sm _ _ hx)
    · obtain ⟨refs, y3, y4, rfl, sm, hE, hr1, nd, fr, lr⟩ := hP
      obtain ⟨e, ee, he⟩ := Paired.at hp ex
      obtain ⟨t, rfl, ht⟩ := EnV.same sm he
      have hi : i < xs.length := (List.getElem?_eq_some_iff.mp ex).1
      have et : es.take (i + 1) = es.take i ++ [e] := take_snoc ee
      have eg : goE [] 0 (es.take (i + 1)) = putE (goE [] 0 (es.take i)) (lvlE 0 (es.take i)) e := by rw [et, goE_app]; rfl
      have el : lvlE 0 (es.take (i + 1)) = nxtE (lvlE 0 (es.take i)) e := by rw [et, lvlE_app]; rfl
      have hne : lvlE 0 (es.take i) ≠ 0 → refs ≠ [] := fun c z => by
        have : goE [] 0 (es.take i) ≠ [] := by
          cases h5 : es.take i with
          | nil => rw [h5] at c; exact absurd rfl c
          | cons e0 t0 =>
            intro z0
            have hj := congrArg List.flatten z0
            rw [go_eps, eps_join] at hj
            cases hj
        rw [z] at hr1
        cases h6 : goE [] 0 (es.take i) with
        | nil => exact this h6
        | cons _ _ => rw [h6] at hr1; cases hr1
      have hfl : ((putE (goE [] 0 (es.take i)) (lvlE 0 (es.take i)) e).flatten).length ≤ 400 := by
        rw [← eg, go_eps, eps_join, List.length_take]
        omega
      rw [eg, el]
      generalize goE [] 0 (es.take i) = EP at *
      generalize lvlE 0 (es.take i) = l at *
      refine ⟨t, _, rfl, .of ht, rfl, _, _, rfl, _, _, rfl, rfl, ?_⟩
      dsimp only
      refine if_gen (fun σ' H' => σ' = [some (.ref a), some (.ref E0), some (.int (l : Int)), some (koV e.1), some (.str (actS e.2))] ∧ ∃ refs EP', Same H H' ∧ H' E0 = some (.lst refs) ∧ Paired (EpV H') refs EP' ∧ refs.Nodup ∧ (∀ t, V.ref t ∈ refs → H t = none ∧ t ≠ E0) ∧ refs.length ≤ i + 1 ∧ refs ≠ [] ∧ putE EP l e = EP'.dropLast ++ [EP'.getLastD [] ++ [e]]) (fun R k => ?_) (fun σ' H2 hO => ?_)
      · refine ⟨_, rfl, rfl, _, rfl, ?_⟩
        by_cases c : l = 0
        · refine iteP (decide_eq_true (by rw [c]; rfl)) ?_
          refine ⟨_, rfl, .inl ⟨rfl, _, SqL.of hE⟩, Nat.zero_le _, fun n nn => ⟨E0, _, _, rfl, rfl, same_upd nn _ _ hE, small (by omega), ?_⟩⟩
          have hnE : n ≠ E0 := fun z => by rw [z, hE] at nn; cases nn
          have hn : H n = none := sm.free nn
          refine k _ _ ⟨rfl, refs ++ [.ref n], EP ++ [[]], ?_, upd_same, ?_, ?_, ?_, ?_, by simp, ?_⟩
          · exact same_grow nE (sm.trans (same_upd nn))
          · refine Paired.app (eps_grow (same_upd nn _ _ hE) (Paired.imp (fun _ _ z => EpV.same (same_upd nn) z) hr1) fun t ht => (fr t ht).2) (.cons ⟨n, rfl, [], ?_, .nil⟩ .nil)
            rw [upd_ne hnE, upd_same]
          · refine List.nodup_append.mpr ⟨nd, List.nodup_cons.mpr ⟨by simp, List.nodup_nil⟩, fun b hb c hc => ?_⟩
            rw [List.mem_singleton.mp hc]
            intro z
            rw [z] at hb
            obtain ⟨j, hj, ej⟩ := List.mem_iff_getElem.mp hb
            obtain ⟨r', _, ⟨t', e', ys', h', _⟩⟩ := Paired.at hr1 (List.getElem?_eq_getElem hj)
            rw [ej] at e'
            cases e'
            rw [h'] at nn
            cases nn
          · intro t' ht'
            rcases List.mem_append.mp ht' with z | z
            · exact fr t' z
            · cases List.mem_singleton.mp z
              exact ⟨hn, hnE⟩
          · rw [List.length_append]
            show refs.length + 1 ≤ i + 1
            omega
          · unfold putE
            rw [if_pos c]
            simp
        · refine iteN (decide_eq_false (fun z => c (by have := V.int.inj z; omega))) ?_
          refine k _ _ ⟨rfl, refs, EP, sm, hE, hr1, nd, fr, by omega, hne c, ?_⟩
          unfold putE
          rw [if_neg c]
      · obtain ⟨rfl, refs2, EP2, sm2, hE2, hr2, nd2, fr2, lr2, ne2, ep2⟩ := hO
        rw [ep2] at hfl ⊢
        obtain ⟨ri, rl, Ei, El, rfl, rfl, hri, tl, rfl, yl, htl, hyl⟩ := paired_last hr2 ne2
        have hd : (Ei ++ [El]).dropLast = Ei := List.dropLast_concat
        have hg : (Ei ++ [El]).getLastD [] = El := by rw [List.getLastD_eq_getLast?, List.getLast?_concat]; rfl
        rw [hd, hg] at hfl ⊢
        have ntl := fr2 tl (List.mem_append.mpr (.inr (List.mem_cons_self ..)))
        have lyl : yl.length ≤ 400 := by
          rw [List.flatten_append, List.length_append, List.flatten_cons, List.flatten_nil, List.append_nil, List.length_append] at hfl
          have := Paired.len hyl
          omega
        refine ⟨_, rfl, 1, rfl, E0, _, -1, _, rfl, rfl, .of hE2, atI_last _ _, .inl ⟨rfl, _, SqL.of htl⟩, _, rfl, _, rfl, (by show 2 ≤ sizeLine; decide), fun n nn => ⟨tl, _, _, rfl, rfl, same_upd nn _ _ htl, small (by omega), ?_⟩⟩
        have sn := same_upd (o := .tup [koV e.1, .str (actS e.2)]) nn
        have htl3 := sn _ _ htl
        have hn3 : (upd H2 n (.tup [koV e.1, .str (actS e.2)])) n = some (.tup [koV e.1, .str (actS e.2)]) := upd_same
        have hE3 := sn _ _ hE2
        have hri3 := Paired.imp (fun _ _ z => EpV.same sn z) hri
        have hyl3 := Paired.imp (fun _ _ z => EnV.same sn z) hyl
        have sm3 := sm2.trans sn
        generalize upd H2 n (.tup [koV e.1, .str (actS e.2)]) = H3 at *
        have fin : ∀ l' : Int, l' = ((nxtE l e : Nat) : Int) → ∃ refs y3 y4, [some (V.ref a), some (.ref E0), some (.int l'), some (koV e.1), some (.str (actS e.2))] = [some (.ref a), some (.ref E0), some (.int ((nxtE l e : Nat) : Int)), y3, y4] ∧ Same H (upd H3 tl (.lst (yl ++ [.ref n]))) ∧ (upd H3 tl (.lst (yl ++ [.ref n]))) E0 = some (.lst refs) ∧ Paired (EpV (upd H3 tl (.lst (yl ++ [.ref n])))) refs (Ei ++ [El ++ [e]]) ∧ refs.Nodup ∧ (∀ t, V.ref t ∈ refs → H t = none ∧ t ≠ E0) ∧ refs.length ≤ i + 1 := fun l' hl' => by
          refine ⟨ri ++ [.ref tl], _, _, by rw [hl'], same_grow ntl.1 sm3, by rw [upd_ne ntl.2.symm]; exact hE3, ?_, nd2, fr2, lr2⟩
          refine Paired.app (eps_grow htl3 hri3 fun t' ht' z => ?_) (.cons ⟨tl, rfl, _, upd_same, Paired.app (Paired.imp (fun _ _ z => EnV.grow htl3 z) hyl3) (.cons (EnV.grow htl3 ⟨n, rfl, hn3⟩) .nil)⟩ .nil)
          rw [z] at ht'
          exact (List.nodup_append.mp nd2).2.2 _ ht' _ (List.mem_cons_self ..) rfl
        refine ⟨_, rfl, rfl, _, rfl, ?_⟩
        obtain ⟨ke, c⟩ := e
        cases c with
        | true =>
          refine iteP (decide_eq_true rfl) ⟨_, rfl, _, _, rfl, rfl, fin _ ?_⟩
          unfold nxtE
          rw [if_pos rfl]
          omega
        | false =>
          refine iteN (decide_eq_false (show ¬ (V.str (actS false) = V.str (actS true)) by decide +kernel)) ⟨_, rfl, _, _, rfl, rfl, _, _, rfl, fin _ ?_⟩
          show (if (0 : Int) > (l : Int) - 1 then (0 : Int) else (l : Int) - 1) = ((if false = true then l + 1 else l - 1 : Nat) : Int)
          rw [if_neg (show ¬ (false = true) by decide)]
          split <;> omega
    · obtain ⟨refs, y3, y4, rfl, sm, hE, hr1, nd, fr, lr⟩ := hP
      rw [lx, List.take_length, go_eps] at hr1
      exact ⟨_, rfl, q _ _ refs sm nE hE hr1 (fun t ht => (fr t ht).1)⟩
end
end UP

set_option Elab.async false
set_option linter.all false
set_option maxRecDepth 100000
set_option maxHeartbeats 4000000
set_option pp.maxSteps 900
namespace UP
open PySem PySem.Spec PyProof.Rows L2
/-- the kinds that may wait -/
def pW (ep : List En) (k : Str) : Bool := !(decide (k ∈ knE ep false)) && (knE ep true).all fun w => decide (k = w)
theorem optW_eq (ks : List Str) (e : En) (r : List En) : optW ks (e :: r) = if e.2 = true then ks.filter (pW (e :: r)) else [] := rfl
theorem bl_all {f : Str → Bool} : ∀ l : List Str, ((l.map f).all id) = l.all f
  | [] => rfl
  | x :: t => by rw [List.map_cons, List.all_cons, List.all_cons, bl_all t]; rfl
theorem optW_len (ks : List Str) (ep : List En) : (optW ks ep).length ≤ ks.length := by
  cases ep with
  | nil => exact Nat.zero_le _
  | cons e r =>
    rw [optW_eq]
    split
    · exact List.length_filter_le _ _
    · exact Nat.zero_le _
theorem optL_len (ks : List Str) (w : Str) (e : En) (h : 0 < ks.length) : (optL ks w e).length ≤ ks.length := by
  unfold optL
  split
  · exact h
  · split
    · exact List.length_filter_le _ _
    · exact h
section
variable {P : Program} {w : World} {K : PySem.W.Frag} {mg : Str → Option Value} {base : Heap}
/-! waiting_options: slots 0:kinds 1:epoch 2:waiting 3:leaving 4:kind 5:each -/
abbrev s_waiting_options : Stmt := topS 22
theorem sc_waiting_options : FnScope ["kinds", "epoch", "waiting", "leaving", "kind", "each"] ["kinds", "epoch"] (defScope s_waiting_options) := ⟨rfl, rfl, rfl, by decide +kernel, rfl, by decide +kernel, by decide +kernel⟩
def sp_waiting_options : Sp := fun vs H Q _ => ∃ (a b : Addr) (ks : List Str) (ep : List En), vs = [.ref a, .ref b] ∧ Sq2 H a (ks.map V.str) ∧ ks.length ≤ 12 ∧ Rec H b ep ∧ ep ≠ [] ∧ ep.length ≤ 400 ∧ ∀ H' p, Same H H' → H p = none → H' p = some (.lst ((optW ks ep).map V.str)) → Q (.ref p) H'
theorem ok_waiting_options (D : Df K mg "waiting_options" s_waiting_options) (T : Tx mg) (G_known_kinds : Has P w K mg base 1 "known_kinds" ["entries", "wanted"] sp_known_kinds) : Has P w K mg base 2 "waiting_options" ["kinds", "epoch"] sp_waiting_options := by
  refine has_of D sc_waiting_options (fun _ _ _ _ _ _ us hl => match us, hl with | [_, _], _ => rfl) (fun vs H Q E h => ?_) (fun f cdv A outer s H vs Q E hr h => ?_)
  · obtain ⟨_, _, _, _, rfl, _⟩ := h
    rfl
  · obtain ⟨a, b, ks, ep, rfl, ha, l12, ⟨xs, hx, hp⟩, ne, l4, q⟩ := h
    refine ⟨_, (pss_cons (ps_if (pt_cmpR op_eq (pe_ix ix_tup (pe_ix ix_list (pv 1) pe_int (fun _ _ => rfl)) pe_int (fun _ _ => rfl)) pe_str (nomark _)) (pss_one (ps_ret (pe_lst pa_nil))) pss_nil)
    (pss_cons (ps_set (i := 2) sc_waiting_options.nd rfl (by first | exact Or.inl rfl | exact Or.inr rfl) (pe_callH G_known_kinds (hr.mono (by omega)) (by rfl) (pa_cons (pv 1) (pa_cons pe_str pa_nil))))
    (pss_cons (ps_set (i := 3) sc_waiting_options.nd rfl (by first | exact Or.inl rfl | exact Or.inr rfl) (pe_callH G_known_kinds (hr.mono (by omega)) (by rfl) (pa_cons (pv 1) (pa_cons pe_str pa_nil))))
    (pss_one (ps_ret (pe_lc (own := [("kind", 4)]) rfl sc_waiting_options.nd (pi_seqV 0) (blkOk_by (N := ["kinds", "epoch", "waiting", "leaving", "kind", "each"]) (sc := defScope s_waiting_options) (by decide +kernel)) (fun _ _ _ _ _ => (pg_name (i := 4) sc_waiting_options.nd rfl (by first | exact Or.inl rfl | exact Or.inr rfl))) (fun _ _ _ _ _ => pts_one (PW.pt (pw_and (pt_cmpR (op_notIn_seqK (K := K) rfl) (pv 4) (pv 3) (by with_unfolding_all rfl)) (pw_and1 (pt_val (pe_callB (cr_allK (K := K) rfl rfl) (by rfl) T.n_all (by decide +kernel) (pa_cons (pe_lc (own := [("each", 5)]) rfl sc_waiting_options.nd (pi_seqV 2) (blkOk_by (N := ["kinds", "epoch", "waiting", "leaving", "kind", "each"]) (sc := relS _ (defScope s_waiting_options)) (by decide +kernel)) (fun _ _ _ _ _ => (pg_name (i := 5) sc_waiting_options.nd rfl (by first | exact Or.inl rfl | exact Or.inr rfl))) (fun _ _ _ _ _ => pts_nil) (fun _ _ _ _ _ => (pe_cmpR op_eq (pv 4) (pv 5) (nomark _)))) pa_nil))))))) (fun _ _ _ _ _ => (pv 4)))))))), ?_⟩
    cases hp with
    | nil => exact absurd rfl ne
    | @cons x0 e0 xr er h0 hpr =>
    have hp : Paired (EnV H) (x0 :: xr) (e0 :: er) := .cons h0 hpr
    obtain ⟨t, rfl, ht⟩ := h0
    refine ⟨_, rfl, b, _, 0, _, rfl, rfl, .of hx, atI_ofB (Int.le_refl _) rfl, t, _, 1, _, rfl, rfl, .of ht, rfl, rfl, _, rfl, ?_⟩
    rw [optW_eq] at q
    by_cases c : e0.2 = true
    · rw [if_pos c] at q
      refine iteN (decide_eq_false (by rw [c]; show ¬ (V.str (actS true) = V.str (actS false)); decide +kernel)) ?_
      refine ⟨_, rfl, b, e0 :: er, true, rfl, ⟨_, hx, hp⟩, l4, fun H1 p1 s1 n1 h1 => ?_⟩
      refine ⟨_, rfl, b, e0 :: er, false, rfl, ⟨_, s1 _ _ hx, Paired.imp (fun _ _ z => EnV.same s1 z) hp⟩, l4, fun H2 p2 s2 n2 h2 => ?_⟩
      have h1 := s2 _ _ h1
      have s12 := s1.trans s2
      have ha2 := ha.same s12
      have l1 := kn_len (e0 :: er) true
      clear hx hpr ht n1 n2
      generalize e0 :: er = ep at *
      refine ⟨a, _, rfl, ha2, fun J wk L nL => lc_wk wk (fun i H' => Same H2 H' ∧ H' L = some (.lst (((ks.take i).filter (pW ep)).map V.str))) (fun _ _ p => p.1) ⟨same_upd nL, upd_same⟩ (fun i x H3 ex p => ?_) (fun H3 p => ?_)⟩
      · obtain ⟨sm, hL⟩ := p
        obtain ⟨k, ek, rfl⟩ := str_at ex
        have hi : i < ks.length := (List.getElem?_eq_some_iff.mp ek).1
        refine ⟨rfl, _, rfl, _, rfl, p2, _, rfl, .inl (.of (sm _ _ h2)), rfl, flat_strs _, _, rfl, ?_⟩
        rw [if_pos rfl, inV_strs, filt_snoc ek]
        by_cases c1 : k ∈ knE ep false
        · have e1 : pW ep k = false := by unfold pW; rw [decide_eq_true c1]; rfl
          rw [decide_eq_true c1, e1]
          refine iteF (iteF ⟨sm, ?_⟩)
          rw [if_neg (by decide), List.append_nil]
          exact hL
        · have e1 : pW ep k = (knE ep true).all fun w => decide (k = w) := by unfold pW; rw [decide_eq_false c1]; rfl
          rw [decide_eq_false c1, e1]
          refine iteT ⟨p1, _, rfl, .inl (sm _ _ h1), fun J2 wk2 M nM => lc_wk wk2 (fun j H' => Same H3 H' ∧ H' M = some (.lst ((((knE ep true).take j).map fun w => decide (k = w)).map V.bl))) (fun _ _ p => p.1) ⟨same_upd nM, upd_same⟩ (fun j y H4 ey p => ?_) (fun H4 p => ?_)⟩
          · obtain ⟨sm4, hM⟩ := p
            obtain ⟨w, ew, rfl⟩ := str_at ey
            have hj : j < (knE ep true).length := (List.getElem?_eq_some_iff.mp ew).1
            refine ⟨rfl, yesT ⟨_, rfl, _, rfl, rfl, _, hM, ?_, same_grow nM sm4, ?_⟩⟩
            · simp only [List.length_map, List.length_take]
              exact small (by omega)
            · rw [upd_same, take_snoc ew, List.map_append, List.map_append, str_dec]
              rfl
          · obtain ⟨sm4, hM⟩ := p
            rw [List.length_map, List.take_length] at hM
            refine ⟨M, _, rfl, .of hM, ?_⟩
            rw [bl_all]
            have hL4 := sm4 _ _ hL
            refine ⟨_, rfl, ?_⟩
            cases e2 : (knE ep true).all fun w => decide (k = w) with
            | false =>
              refine iteF ⟨sm.trans sm4, ?_⟩
              rw [if_neg (by decide), List.append_nil]
              exact hL4
            | true =>
              refine iteT ⟨_, rfl, _, hL4, ?_, same_grow nL (sm.trans sm4), ?_⟩
              · have := List.length_filter_le (pW ep) (ks.take i)
                rw [List.length_take] at this
                rw [List.length_map]
                exact small (by omega)
              · rw [upd_same, if_pos rfl, List.map_append]
                rfl
      · obtain ⟨sm, hL⟩ := p
        rw [List.length_map, List.take_length] at hL
        exact q _ _ (s12.trans sm) (s12.free nL) hL
    · have c : e0.2 = false := by simpa using c
      rw [if_neg (by rw [c]; decide)] at q
      refine iteP (decide_eq_true (by rw [c]; rfl)) ⟨Nat.zero_le _, fun p np => q _ _ (same_upd np) np upd_same⟩
/-! later_options: slots 0:kinds 1:entry 2:waiting 3:kind 4:action 5:each -/
abbrev s_later_options : Stmt := topS 23
theorem sc_later_options : FnScope ["kinds", "entry", "waiting", "kind", "action", "each"] ["kinds", "entry", "waiting"] (defScope s_later_options) := ⟨rfl, rfl, rfl, by decide +kernel, rfl, by decide +kernel, by decide +kernel⟩
def sp_later_options : Sp := fun vs H Q _ => ∃ (a : Addr) (v : V) (ks : List Str) (e : En) (wt : Str), vs = [.ref a, v, .str wt] ∧ Sq2 H a (ks.map V.str) ∧ ks.length ≤ 12 ∧ EnV H v e ∧ ∀ H' p, Same H H' → H p = none → H' p = some (.lst ((optL ks wt e).map V.str)) → Q (.ref p) H'
theorem ok_later_options (D : Df K mg "later_options" s_later_options) : Has P w K mg base 1 "later_options" ["kinds", "entry", "waiting"] sp_later_options := by
  refine has_of D sc_later_options (fun _ _ _ _ _ _ us hl => match us, hl with | [_, _, _], _ => rfl) (fun vs H Q E h => ?_) (fun f cdv A outer s H vs Q E hr h => ?_)
  · obtain ⟨_, _, _, _, _, rfl, _⟩ := h
    rfl
  · obtain ⟨a, v, ks, ⟨ke, c⟩, wt, rfl, ha, l12, ⟨t, rfl, ht⟩, q⟩ := h
    refine ⟨_, (pss_cons (ps_asg (pv 1) (pg_tup rfl (pgs_cons (pg_name (i := 3) sc_later_options.nd rfl (by first | exact Or.inl rfl | exact Or.inr rfl)) (pgs_cons (pg_name (i := 4) sc_later_options.nd rfl (by first | exact Or.inl rfl | exact Or.inr rfl)) pgs_nil))))
    (pss_cons (ps_if (pt_cmpR op_eq (pv 4) pe_str (nomark _)) (pss_one (ps_ret (pe_lst (pa_cons (pv 2) pa_nil)))) pss_nil)
    (pss_cons (ps_if (pt_cmpR op_isN (pv 3) pe_non (nomark _)) (pss_one (ps_ret (pe_lc (own := [("each", 5)]) rfl sc_later_options.nd (pi_seqV 0) (blkOk_by (N := ["kinds", "entry", "waiting", "kind", "action", "each"]) (sc := defScope s_later_options) (by decide +kernel)) (fun _ _ _ _ _ => (pg_name (i := 5) sc_later_options.nd rfl (by first | exact Or.inl rfl | exact Or.inr rfl))) (fun _ _ _ _ _ => pts_one (pt_cmpR op_ne (pv 5) (pv 2) (nomark _))) (fun _ _ _ _ _ => (pv 5))))) pss_nil)
    (pss_one (ps_ret (pe_lst (pa_cons (pv 3) pa_nil))))))), ?_⟩
    refine ⟨_, rfl, t, _, rfl, .of ht, rfl, _, _, rfl, _, _, rfl, rfl, ?_⟩
    refine ⟨_, rfl, rfl, _, rfl, ?_⟩
    cases c with
    | true =>
      exact iteP (decide_eq_true rfl) ⟨_, rfl, (by show 1 ≤ sizeLine; decide), fun p np => q _ _ (same_upd np) np upd_same⟩
    | false =>
      refine iteN (decide_eq_false (show ¬ (V.str (actS false) = V.str (actS true)) by decide +kernel)) ⟨_, rfl, rfl, _, rfl, ?_⟩
      cases ke with
      | some k =>
        refine iteN (decide_eq_false (fun z => by cases z)) ⟨_, rfl, (by show 1 ≤ sizeLine; decide), fun p np => q _ _ (same_upd np) np upd_same⟩
      | none =>
        refine iteP (decide_eq_true rfl) ⟨a, _, rfl, ha, fun J wk L nL => lc_wk wk (fun i H' => Same H H' ∧ H' L = some (.lst (((ks.take i).filter fun k => !decide (k = wt)).map V.str))) (fun _ _ p => p.1) ⟨same_upd nL, upd_same⟩ (fun i x H3 ex p => ?_) (fun H3 p => ?_)⟩
        · obtain ⟨sm, hL⟩ := p
          obtain ⟨k, ek, rfl⟩ := str_at ex
          have hi : i < ks.length := (List.getElem?_eq_some_iff.mp ek).1
          refine ⟨rfl, _, rfl, _, rfl, rfl, _, rfl, ?_⟩
          rw [str_dec, filt_snoc ek]
          cases e2 : decide (k = wt) with
          | true =>
            refine iteF ⟨sm, ?_⟩
            rw [if_neg (by decide), List.append_nil]
            exact hL
          | false =>
            refine iteT ⟨_, rfl, _, hL, ?_, same_grow nL sm, ?_⟩
            · have := List.length_filter_le (fun k => !decide (k = wt)) (ks.take i)
              rw [List.length_take] at this
              rw [List.length_map]
              exact small (by omega)
            · rw [upd_same, if_pos (by decide), List.map_append]
              rfl
        · obtain ⟨sm, hL⟩ := p
          rw [List.length_map, List.take_length] at hL
          exact q _ _ sm nL hL
end
end UP

set_option Elab.async false
set_option linter.all false
set_option maxRecDepth 100000
set_option maxHeartbeats 4000000
set_option pp.maxSteps 600
namespace UP
open PySem PySem.Spec PyProof.Rows L2
/-! ### zip of two values, each a list, a tuple or a text -/
inductive Sd where
  | lst (a : Addr) (xs : List V)
  | tup (a : Addr) (xs : List V)
  | str (z : Str) (t : Tok)
def Sd.xs : Sd → List V
  | .lst _ xs => xs
  | .tup _ xs => xs
  | .str z _ => z.cps.toList.map fun c => V.str ⟨#[c]⟩
def Sd.here (K : PySem.W.Frag) (H : Hp) : Sd → Prop
  | .lst a xs => SqL K H a xs
  | .tup a xs => SqT K H a xs
  | .str _ _ => True
def Sd.itr (it : Addr) (i : Nat) (h : Heap) : Sd → Prop
  | .lst a _ => h.IsListIter it a i
  | .tup a _ => h.IsTupleIter it a i
  | .str z t => h.IsStrIter it (strIterType z) z t i
def Sd.fp (it : Addr) : Sd → List Addr
  | .lst a _ => [it, a]
  | .tup a _ => [it, a]
  | .str _ _ => [it]
def Sd.far (x : Addr) : Sd → Prop
  | .lst a _ => a ≠ x
  | .tup a _ => a ≠ x
  | .str _ _ => True
def Sd.val : Sd → V
  | .lst a _ => .ref a
  | .tup a _ => .ref a
  | .str z _ => .str z
theorem Sd.not_in {S : Sd} {x it : Addr} (h : S.far x) (n : x ≠ it) : x ∉ S.fp it := by
  have two : ∀ {a : Addr}, a ≠ x → x ∉ [it, a] := fun {a} h m => by
    rcases List.mem_cons.mp m with e | e
    · exact n e
    · exact h (List.mem_singleton.mp e).symm
  cases S with
  | lst a xs => exact two h
  | tup a xs => exact two h
  | str z t => exact fun m => n (List.mem_singleton.mp m)
theorem zne {n i j : Nat} (h : i ≠ j) : n + i ≠ n + j := fun e => h (Nat.add_left_cancel e)
/-- u is its value -/
def Sd.is (u : Value) : Sd → Prop
  | .lst a _ => u = .ref a
  | .tup a _ => u = .ref a
  | .str z t => u = .str z t
theorem Sd.it_in (S : Sd) (it : Addr) : it ∈ S.fp it := by cases S <;> exact List.mem_cons_self ..
theorem Sd.cell {S : Sd} {it : Addr} {i : Nat} {h : Heap} (st : S.itr it i h) : ∃ o, h.get? it = some o ∧ ∀ v, o.data ≠ .cell v := by
  cases S with
  | lst a xs =>
    obtain ⟨o, e, _, d⟩ := st
    exact ⟨o, e, fun v q => by rw [d] at q; cases q⟩
  | tup a xs =>
    obtain ⟨o, e, _, d⟩ := st
    exact ⟨o, e, fun v q => by rw [d] at q; cases q⟩
  | str z t =>
    obtain ⟨o, e, _, d⟩ := st
    exact ⟨o, e, fun v q => by rw [d] at q; cases q⟩
theorem Sd.kept {S : Sd} {it : Addr} {i : Nat} {h h' : Heap} (st : S.itr it i h) (k : ∀ o, h.get? it = some o → h'.get? it = some o) : S.itr it i h' := by
  cases S with
  | lst a xs =>
    obtain ⟨o, e, r⟩ := st
    exact ⟨o, k o e, r⟩
  | tup a xs =>
    obtain ⟨o, e, r⟩ := st
    exact ⟨o, k o e, r⟩
  | str z t =>
    obtain ⟨o, e, r⟩ := st
    exact ⟨o, k o e, r⟩
/-- its iterator draws -/
theorem Sd.draws {X : Cx} {pins : List (Addr × Obj)} {σ : L2.St} {H : Hp} {s : Shared} (I : Inv X pins σ H s) {A : Around} (hh : A.handled = none) (S : Sd) (hr : S.here X.K H) {it : Addr} (f : S.far it) :
    ∃ (n : Nat) (Pv : Nat → Value → Prop) (St : Nat → Heap → Prop), Draws X.prog X.w A it (S.fp it) n Pv St ∧ n = S.xs.length ∧ (∀ i u, Pv i u → ∃ v, S.xs[i]? = some v ∧ RelV v u) ∧ (∀ i, S.itr it i s.heap → St i s.heap) ∧ ∀ i h, St i h → S.itr it i h := by
  have fit : ∀ {its : List Value} {xs : List V}, Vals xs its → ∀ (i : Nat) (u : Value), its.toArray[i]? = some u → ∃ v, xs[i]? = some v ∧ RelV v u := fun {its xs} rv i u hu => by
    have hu : its[i]? = some u := by simpa using hu
    have li : i < xs.length := by
      rw [rv.length]
      exact (List.getElem?_eq_some_iff.mp hu).1
    obtain ⟨u', e, r⟩ := rv.get (List.getElem?_eq_getElem li)
    rw [hu] at e
    cases e
    exact ⟨_, List.getElem?_eq_getElem li, r⟩
  cases S with
  | lst a xs =>
    obtain ⟨its, rv, p, _⟩ := I.list hr
    exact ⟨_, _, _, Draws.list hh it a f its.toArray, by show its.toArray.size = xs.length; simp [rv.length], fit rv, fun i st => ⟨st, p.isList⟩, fun i h st => st.1⟩
  | tup a xs =>
    obtain ⟨its, rv, p, _⟩ := I.tuple hr
    exact ⟨_, _, _, Draws.tuple hh it a f its.toArray, by show its.toArray.size = xs.length; simp [rv.length], fit rv, fun i st => ⟨st, p⟩, fun i h st => st.1⟩
  | str z t =>
    refine ⟨_, _, _, Draws.text hh it z t, by show z.cps.size = (z.cps.toList.map fun c => V.str ⟨#[c]⟩).length; simp, fun i u hu => ?_, fun i st => st, fun i h st => st⟩
    obtain ⟨c, k, hc, rfl⟩ := hu
    refine ⟨.str ⟨#[c]⟩, ?_, k, rfl⟩
    show (z.cps.toList.map fun c => V.str ⟨#[c]⟩)[i]? = _
    rw [List.getElem?_map, Array.getElem?_toList, hc]
    rfl
def ItG (K : PySem.W.Frag) (S1 S2 : Sd) : It :=
  ⟨fun i H => S1.here K H ∧ S2.here K H ∧ i < S1.xs.length ∧ i < S2.xs.length,
    fun i H v H' => ∃ T x y, v = .ref T ∧ H T = none ∧ H' = upd H T (.tup [x, y]) ∧ S1.xs[i]? = some x ∧ S2.xs[i]? = some y,
    fun i H => S1.here K H ∧ S2.here K H ∧ i ≤ S1.xs.length ∧ i ≤ S2.xs.length ∧ (i = S1.xs.length ∨ i = S2.xs.length)⟩
theorem turn_zipG {P : Program} {w : World} {K : PySem.W.Frag} {elts : List Expr} {kk : Nat} {tpos : Pos} {z TI TO i1 i2 : Addr} {S1 S2 : Sd} (D : ZipSep2 z TI TO i1 i2 (S1.fp i1) (S2.fp i2)) (f1 : S1.far i1) (f2 : S2.far i2) :
    Turn P w K (.Tuple elts kk tpos) (ItG K S1 S2) [z, TI, TO, i1, i2] z (fun i h => IsZip h z TI TO .none ∧ IsTupOf2 h TI (.ref i1) (.ref i2) ∧ (∃ x y, IsTupOf2 h TO x y) ∧ S1.itr i1 i h ∧ S2.itr i2 i h) where
  mem := by simp
  obj := fun i h st c hc => by
    obtain ⟨hz, hTI, ⟨x, y, hTO⟩, t1, t2⟩ := st
    simp only [List.mem_cons, List.not_mem_nil, or_false] at hc
    rcases hc with rfl | rfl | rfl | rfl | rfl
    · exact ⟨_, hz, fun v q => nomatch q⟩
    · exact ⟨_, hTI, fun v q => nomatch q⟩
    · exact ⟨_, hTO, fun v q => nomatch q⟩
    · exact Sd.cell t1
    · exact Sd.cell t2
  keep := fun i h h' st k => by
    obtain ⟨hz, hTI, ⟨x, y, hTO⟩, t1, t2⟩ := st
    exact ⟨k z (by simp) _ hz, k TI (by simp) _ hTI, ⟨x, y, k TO (by simp) _ hTO⟩, Sd.kept t1 fun o q => k i1 (by simp) o q, Sd.kept t2 fun o q => k i2 (by simp) o q⟩
  item := by
    intro X hP hw hK hc i pins s σ H E I hf st hg
    subst hP hw hK
    obtain ⟨hz, hTI, ⟨x0, y0, hTO⟩, t1, t2⟩ := st
    obtain ⟨e1, e2, l1, l2⟩ := hg
    have hh : X.A.in1.handled = none := I.ok.hd hc
    obtain ⟨n1, P1, St1, D1, en1, it1, to1, fr1⟩ := S1.draws I hh e1 f1
    obtain ⟨n2, P2, St2, D2, en2, it2, to2, fr2⟩ := S2.draws I hh e2 f2
    have zl : z < s.heap.objs.size := Heap.lt_size hz
    refine wpAny_pyNext_zipD2_item D D1 D2 hz hTI hTO (to1 i t1) (to2 i t2) (by omega) (by omega) fun x1 x2 h' tk p1 p2 z' TO' s1 s2 hT hsz hk => ?_
    obtain ⟨v1, ev1, r1⟩ := it1 i x1 p1
    obtain ⟨v2, ev2, r2⟩ := it2 i x2 p2
    refine ⟨_, rfl, wpAny_letOwnedTupleGo_zip (s := { s with heap := h', toks := tk }) z' fun h'' z'' sb => ?_⟩
    have hT2 : h''.get? s.heap.objs.size = some { cls := .type "tuple", data := .seq #[x1, x2] } := (sb.2 _ (Nat.ne_of_gt zl)).trans hT
    have new : ObjOk X.prog X.w (upd H s.heap.objs.size (.tup [v1, v2])) h'' s.heap.objs.size (.tup [v1, v2]) := ⟨by show 2 ≤ sizeLine; decide, [x1, x2], .cons r1 (.cons r2 .nil), ⟨_, hT2, rfl, _, rfl⟩⟩
    have I1 : Inv X pins σ (upd H s.heap.objs.size (.tup [v1, v2])) { s with heap := h'', toks := tk } :=
      I.turnedNew (t' := tk) (ch := [z, TI, TO, i1, i2]) (fun c o nb q => (sb.2 c (fun e => nb (by simp [e]))).trans (hk c o (fun e => nb (by simp [e])) (fun e => nb (by simp [e])) (fun e => nb (by simp [e])) (fun e => nb (by simp [e])) q)) hf (Nat.le_refl _) new
    refine ⟨.ref s.heap.objs.size, _, I1, rfl, ⟨_, v1, v2, rfl, I.hok.fresh (Nat.le_refl _), rfl, ev1, ev2⟩, ⟨z'', ?_, ⟨x1, x2, ?_⟩, ?_, ?_⟩, fun c hcm => ?_⟩
    · exact (sb.2 _ D.TIz).trans (hk _ _ D.TIz D.TITO D.TIi1 D.TIi2 hTI)
    · exact (sb.2 _ D.TOz).trans TO'
    · exact Sd.kept (fr1 _ _ s1) fun o q => (sb.2 _ D.zi1.symm).trans q
    · exact Sd.kept (fr2 _ _ s2) fun o q => (sb.2 _ D.zi2.symm).trans q
    · have hlt : c < s.heap.objs.size := by
        have hcm' := hcm
        simp only [List.mem_cons, List.not_mem_nil, or_false] at hcm'
        rcases hcm' with q | q | q | q | q
        · rw [q]; exact zl
        · rw [q]; exact Heap.lt_size hTI
        · rw [q]; exact Heap.lt_size hTO
        · rw [q]; obtain ⟨_, e, _⟩ := Sd.cell t1; exact Heap.lt_size e
        · rw [q]; obtain ⟨_, e, _⟩ := Sd.cell t2; exact Heap.lt_size e
      rw [upd_ne (Nat.ne_of_lt hlt)]
      exact (hf c hcm).1
  done := by
    intro X hP hw hK hc i pins s σ H E I hf st hg
    subst hP hw hK
    obtain ⟨hz, hTI, ⟨x0, y0, hTO⟩, t1, t2⟩ := st
    obtain ⟨e1, e2, l1, l2, le⟩ := hg
    have hh : X.A.in1.handled = none := I.ok.hd hc
    obtain ⟨n1, P1, St1, D1, en1, it1, to1, fr1⟩ := S1.draws I hh e1 f1
    obtain ⟨n2, P2, St2, D2, en2, it2, to2, fr2⟩ := S2.draws I hh e2 f2
    exact wpAny_pyNext_zipD2_end D D1 D2 hz hTI hTO (to1 i t1) (to2 i t2) (by omega) (by omega) (by omega) fun h' tk hk => ⟨rfl, I.turnedL (t' := tk) (ch := [z, TI, TO, i1, i2]) (fun c o nb q => hk c o (fun e => nb (by simp [e])) (fun e => nb (by simp [e])) (fun e => nb (by simp [e])) (fun e => nb (by simp [e])) q) hf⟩
  self := fun A i s Q E st h => wpAny_pyIter_zip st.1 h
/-- how it begins -/
theorem Sd.begins {X : Cx} {pins : List (Addr × Obj)} {σ : L2.St} {H : Hp} {s : Shared} (I : Inv X pins σ H s) (S : Sd) (hr : S.here X.K H) {u : Value} (hu : S.is u) :
    ∃ (o : Obj) (B : Heap → Prop), Begins u o B ∧ B s.heap ∧ (∀ (it : Addr) (h : Heap), h.get? it = some o → S.itr it 0 h) ∧ ∀ x, s.heap.objs.size ≤ x → S.far x := by
  cases S with
  | lst a xs =>
    obtain ⟨its, rv, p, _⟩ := I.list hr
    cases (show u = Value.ref a from hu)
    exact ⟨_, _, begins_list a its.toArray, p.isList, fun it h e => ⟨_, e, rfl, rfl⟩, fun x l e => by
      have := p.lt
      rw [e] at this
      exact absurd this (Nat.not_lt.mpr l)⟩
  | tup a xs =>
    obtain ⟨its, rv, p, _⟩ := I.tuple hr
    cases (show u = Value.ref a from hu)
    exact ⟨_, _, begins_tuple a its.toArray, p, fun it h e => ⟨_, e, rfl, rfl⟩, fun x l e => by
      obtain ⟨_, g, _⟩ := id p
      have := Heap.lt_size g
      rw [e] at this
      exact absurd this (Nat.not_lt.mpr l)⟩
  | str z t =>
    cases (show u = Value.str z t from hu)
    exact ⟨_, _, begins_text z t, trivial, fun it h e => ⟨_, e, rfl, rfl⟩, fun x l => True.intro⟩
def iZipG (K : PySem.W.Frag) (ta : TA) : TI := fun σ H R => ta σ H fun vs H1 => ∃ v1 v2, vs = [v1, v2] ∧
  ((∃ a xs b ys, v1 = .ref a ∧ v2 = .ref b ∧ (SqL K H1 a xs ∨ SqT K H1 a xs) ∧ (SqL K H1 b ys ∨ SqT K H1 b ys) ∧ ∀ S1 S2 : Sd, S1.xs = xs → S2.xs = ys → S1.here K H1 → S2.here K H1 → (S1 = .lst a xs ∨ S1 = .tup a xs) → (S2 = .lst b ys ∨ S2 = .tup b ys) → R (ItG K S1 S2) H1) ∨
   ∃ a xs z, v1 = .ref a ∧ v2 = .str z ∧ SqL K H1 a xs ∧ ∀ t, R (ItG K (.lst a xs) (.str z t)) H1)
theorem pi_zipG {X : Cx} {e e2 : Expr} {ta : TA} {p pos tpos : Pos} {elts : List Expr} {kk : Nat} (hg : Gl X "zip") (hm : X.mg "zip" = none) (ha : PA X [e, e2] ta)
    (hs : starEach [e, e2] X.env = (false, eval e X.env) :: starEach [e2] X.env := by rfl) (hpl : (backTo pos (starEach [e2] X.env)).any (·.1) = false := by rfl) :
    PI X (.Tuple elts kk tpos) (.Call (.Name "zip" p) [e, e2] [] pos) (iZipG X.K ta) := by
  constructor
  intro pins s σ H R I h
  refine Call_ (ld_blt I hg hm PyProof.Rows.boot_zip (PyProof.Rows.callWith_type1 (thn (ha.run pos pins s σ H _ I h) fun us s1 ⟨vs, H1, I1, r1, q1⟩ => ?_) hs hpl))
  obtain ⟨v1, v2, rfl, q1⟩ := q1
  cases r1 with
  | @cons _ u1 _ _ ru1 rr =>
    cases rr with
    | @cons _ u2 _ _ ru2 rr =>
      cases rr
      have main : ∀ S1 S2 : Sd, S1.here X.K H1 → S2.here X.K H1 → S1.is u1 → S2.is u2 → R (ItG X.K S1 S2) H1 →
          wpAny (model X.prog X.w) X.A (call (.type "zip") [u1, u2]) (fun v s2 => wpAny (model X.prog X.w) X.A (pyIter v) (PIE X pins σ (.Tuple elts kk tpos) R) X.xe s2) X.xe s1 := fun S1 S2 h1 h2 m1 m2 q => by
        obtain ⟨o1, B1, b1, k1, i1, f1⟩ := S1.begins I1 h1 m1
        obtain ⟨o2, B2, b2, k2, i2, f2⟩ := S2.begins I1 h2 m2
        refine zip_begins2 b1 b2 k1 k2 fun h' hz hTI hTO g1 g2 hsz hk => wpAny_pyIter_zip hz ?_
        have I2 : Inv X pins σ H1 { s1 with heap := h' } := I1.kept (t' := s1.toks) hk
        have D : ZipSep2 (s1.heap.objs.size + 4) (s1.heap.objs.size + 2) (s1.heap.objs.size + 3) s1.heap.objs.size (s1.heap.objs.size + 1) (S1.fp s1.heap.objs.size) (S2.fp (s1.heap.objs.size + 1)) :=
          ⟨zne (by decide), zne (by decide), zne (by decide), zne (j := 0) (by decide), Sd.it_in _ _, Sd.not_in (f1 _ (Nat.le_add_right _ _)) (zne (j := 0) (by decide)), Sd.not_in (f1 _ (Nat.le_add_right _ _)) (zne (j := 0) (by decide)), zne (by decide), Sd.it_in _ _, Sd.not_in (f2 _ (Nat.le_add_right _ _)) (zne (by decide)), Sd.not_in (f2 _ (Nat.le_add_right _ _)) (zne (by decide)), Sd.not_in (f2 _ (Nat.le_refl _)) (zne (i := 0) (by decide)), Sd.not_in (f1 _ (Nat.le_add_right _ _)) (zne (j := 0) (by decide))⟩
        refine ⟨s1.heap.objs.size + 4, [s1.heap.objs.size + 4, s1.heap.objs.size + 2, s1.heap.objs.size + 3, s1.heap.objs.size, s1.heap.objs.size + 1], _, _, H1, rfl, I2, turn_zipG D (f1 _ (Nat.le_refl _)) (f2 _ (Nat.le_succ _)), ⟨hz, hTI, ⟨_, _, hTO⟩, i1 _ _ g1, i2 _ _ g2⟩, fun c hcm => ?_, q⟩
        have hle : s1.heap.objs.size ≤ c := by
          simp only [List.mem_cons, List.not_mem_nil, or_false] at hcm
          rcases hcm with e | e | e | e | e <;> rw [e] <;> first | exact Nat.le_add_right _ _ | exact Nat.le_refl _
        exact I1.fpOk hle (I1.hok.fresh hle)
      rcases q1 with ⟨a, xs, b, ys, rfl, rfl, h1, h2, q⟩ | ⟨a, xs, z, rfl, rfl, h1, q⟩
      · rcases h1 with h1 | h1
        · rcases h2 with h2 | h2
          · exact main (.lst a xs) (.lst b ys) h1 h2 ru1 ru2 (q _ _ rfl rfl h1 h2 (.inl rfl) (.inl rfl))
          · exact main (.lst a xs) (.tup b ys) h1 h2 ru1 ru2 (q _ _ rfl rfl h1 h2 (.inl rfl) (.inr rfl))
        · rcases h2 with h2 | h2
          · exact main (.tup a xs) (.lst b ys) h1 h2 ru1 ru2 (q _ _ rfl rfl h1 h2 (.inr rfl) (.inl rfl))
          · exact main (.tup a xs) (.tup b ys) h1 h2 ru1 ru2 (q _ _ rfl rfl h1 h2 (.inr rfl) (.inr rfl))
      · obtain ⟨t, rfl⟩ := ru2
        exact main (.lst a xs) (.str z t) h1 True.intro ru1 rfl (q t)
end UP

set_option Elab.async false
set_option linter.all false
set_option maxRecDepth 100000
set_option maxHeartbeats 4000000
set_option pp.maxSteps 900
namespace UP
open PySem PySem.Spec PyProof.Rows L2
theorem ip_mulW {X : Cx} : PIp X .Mult (rI CMulW fun i j => V.int (i * j)) := by
  intro pins s σ H x y v u Q I r1 r2 h
  obtain ⟨i, j, e1, e2, c, q⟩ := h
  subst e1; subst e2
  obtain ⟨t, rfl⟩ := r1
  obtain ⟨t', rfl⟩ := r2
  exact imul_int ⟨.int _, H, I.tok _, ⟨_, rfl⟩, q⟩ c.ok
def nvV (n : Nat) : V := .int (n : Int)
theorem prod_snoc {l : List Nat} {i n : Nat} (h : l[i]? = some n) : prodN (l.take (i + 1)) = prodN (l.take i) * n := by
  unfold prodN
  rw [take_snoc h, List.foldl_append]
  rfl
theorem prod_le : ∀ (l : List Nat) (a : Nat), (∀ n ∈ l, n ≤ 12) → l.foldl (· * ·) a ≤ a * 12 ^ l.length
  | [], a, _ => by show a ≤ a * 1; omega
  | n :: t, a, h => by
    have h1 := prod_le t (a * n) fun x hx => h x (List.mem_cons_of_mem _ hx)
    have h2 := h n (List.mem_cons_self ..)
    show t.foldl (· * ·) (a * n) ≤ a * 12 ^ (t.length + 1)
    refine Nat.le_trans h1 ?_
    rw [Nat.pow_succ, Nat.mul_comm (12 ^ t.length) 12, ← Nat.mul_assoc]
    exact Nat.mul_le_mul_right _ (Nat.mul_le_mul_left _ h2)
theorem p12 : ∀ {k : Nat}, k ≤ 401 → 12 ^ k < 2 ^ 1700 := fun {k} h => Nat.lt_of_le_of_lt (Nat.pow_le_pow_right (by decide) h) (by decide +kernel)
theorem prod_lt {l : List Nat} (h : ∀ n ∈ l, n ≤ 12) (l4 : l.length ≤ 400) : prodN l < 2 ^ 1700 := by
  have := prod_le l 1 h
  rw [Nat.one_mul] at this
  exact Nat.lt_of_le_of_lt this (p12 (by omega))
theorem Rec.but {D a : Addr} {H H' : Hp} {acc : List V} {es : List En} (hD : H D = some (.lst acc)) (n : a ≠ D) (b : But D H H') (h : Rec H a es) : Rec H' a es := by
  obtain ⟨xs, hx, hp⟩ := h
  exact ⟨xs, b _ _ n hx, Paired.imp (fun _ _ z => z.tk fun t ys e => b _ _ (ne_of e hD (by intro y; cases y)) e) hp⟩
theorem sq_but {D a : Addr} {H H' : Hp} {xs : List V} (n : a ≠ D) (b : But D H H') (h : Sq2 H a xs) : Sq2 H' a xs := h.elim (fun z => .inl (b _ _ n z)) (fun z => .inr (b _ _ n z))
theorem sq_ne {D a : Addr} {H : Hp} {xs : List V} (h : Sq2 H a xs) (n : H D = none) : a ≠ D := h.elim (fun z => ne_of_none z n) (fun z => ne_of_none z n)
theorem Sq2.twoE {K : PySem.W.Frag} {H : Hp} {a : Addr} {xs : List V} (h : Sq2 H a xs) : SqL K H a xs ∨ SqT K H a xs := h.elim (fun z => .inl (.of z)) fun z => .inr (.of z)
theorem ixQ {K : PySem.W.Frag} {H : Hp} {a : Addr} {xs : List V} {i : Int} {z : V} {Q : VK} (h : Sq2 H a xs) (e : atI xs i = some z) (q : Q z H) : rIx K (.ref a) (.int i) H Q :=
  h.elim (fun h => .inl ⟨a, xs, i, z, rfl, rfl, .of h, e, q⟩) (fun h => .inr (.inl ⟨a, xs, i, z, rfl, rfl, .of h, e, q⟩))
theorem cut_tlE (xs : List V) (h : xs ≠ []) : cutV xs (some 1) none = xs.tail := by
  have h1 : 1 ≤ xs.length := List.length_pos_iff.mpr h
  have e : HT.sIx xs.length 0 (some 1) = 1 := by
    have := HT.sIx_nat xs.length 0 1
    rw [show ((1 : Nat) : Int) = 1 by rfl] at this
    omega
  unfold cutV
  rw [e, HT.sIx_none, List.take_of_length_le (by rw [List.length_drop]; exact Nat.le_refl _), List.drop_one]
theorem pair_tail {α β : Type} {F : α → β → Prop} {xs : List α} {ys : List β} (h : Paired F xs ys) : Paired F xs.tail ys.tail := by
  cases h with
  | nil => exact .nil
  | cons _ t => exact t
theorem numP_len {ks : List Str} {ep : List En} (h : ep ≠ []) : (numP ks ep).length = ep.length := by
  unfold numP
  rw [List.length_cons, List.length_map, List.length_tail]
  have := List.length_pos_iff.mpr h
  omega
theorem numL_len {ks : List Str} : ∀ {L : List (List En)}, (∀ ep ∈ L, ep ≠ []) → (L.flatMap (numP ks)).length = L.flatten.length
  | [], _ => rfl
  | ep :: t, h => by
    rw [List.flatMap_cons, List.flatten_cons, List.length_append, List.length_append, numP_len (h ep (List.mem_cons_self ..)), numL_len fun x hx => h x (List.mem_cons_of_mem _ hx)]
theorem numE_len (ks : List Str) (es : List En) : (numE ks es).length = es.length := by
  unfold numE
  rw [numL_len fun ep he => eps_ne ep he, eps_join]
theorem numP_le {ks : List Str} {ep : List En} (h0 : 0 < ks.length) (h : ks.length ≤ 12) : ∀ n ∈ numP ks ep, n ≤ 12 := by
  intro n hn
  unfold numP at hn
  rcases List.mem_cons.mp hn with e | e
  · rw [e]
    exact Nat.le_trans (optW_len ks ep) h
  · obtain ⟨x, _, rfl⟩ := List.mem_map.mp e
    exact Nat.le_trans (optL_len ks _ x h0) h
theorem numE_le {ks : List Str} {es : List En} (h0 : 0 < ks.length) (h : ks.length ≤ 12) : ∀ n ∈ numE ks es, n ≤ 12 := by
  intro n hn
  obtain ⟨ep, _, hp⟩ := List.mem_flatMap.mp hn
  exact numP_le h0 h n hp
theorem flat_take {L : List (List En)} {i : Nat} : (L.take i).flatten.length ≤ L.flatten.length := by
  conv => rhs; rw [← List.take_append_drop i L, List.flatten_append, List.length_append]
  omega
section
variable {P : Program} {w : World} {K : PySem.W.Frag} {mg : Str → Option Value} {base : Heap}
/-! product_of: slots 0:numbers 1:product 2:number -/
abbrev s_product_of : Stmt := topS 14
theorem sc_product_of : FnScope ["numbers", "product", "number"] ["numbers"] (defScope s_product_of) := ⟨rfl, rfl, rfl, by decide +kernel, rfl, by decide +kernel, by decide +kernel⟩
def sp_product_of : Sp := fun vs H Q _ => ∃ (a : Addr) (ns : List Nat), vs = [.ref a] ∧ H a = some (.lst (ns.map nvV)) ∧ ns.length ≤ 400 ∧ (∀ n ∈ ns, n ≤ 12) ∧ Q (.int ((prodN ns : Nat) : Int)) H
theorem ok_product_of (D : Df K mg "product_of" s_product_of) : Has P w K mg base 1 "product_of" ["numbers"] sp_product_of := by
  refine has_of D sc_product_of (fun _ _ _ _ _ _ us hl => match us, hl with | [_], _ => rfl) (fun vs H Q E h => ?_) (fun f cdv A outer s H vs Q E hr h => ?_)
  · obtain ⟨_, _, rfl, _⟩ := h
    rfl
  · obtain ⟨a, ns, rfl, ha, l4, b12, q⟩ := h
    refine ⟨_, (pss_cons (ps_set (i := 1) sc_product_of.nd rfl (by first | exact Or.inl rfl | exact Or.inr rfl) pe_int)
    (pss_cons (ps_for PassesOwn.never rfl (pi_list (pv 0)) (pg_name (i := 2) sc_product_of.nd rfl (by first | exact Or.inl rfl | exact Or.inr rfl))
      (pss_one (ps_aug (i := 1) sc_product_of.nd rfl (by first | exact Or.inl rfl | exact Or.inr rfl) (pv 2) ip_mulW)))
    (pss_one (ps_ret (pv 1))))), ?_⟩
    refine ⟨_, rfl, a, rfl, ⟨_, .of ha⟩, for_list (K := K) (a := a) (xs := ns.map nvV) (fun i σ H' => ∃ y2, σ = [some (.ref a), some (.int ((prodN (ns.take i) : Nat) : Int)), y2] ∧ H' = H) ⟨none, rfl, rfl⟩ (fun i σ H' _ hP => ?_) (fun i x σ H1 ex hP => ?_) (fun σ H1 hP => ?_)⟩
    · obtain ⟨_, _, rfl⟩ := hP
      exact .of ha
    · obtain ⟨y2, rfl, rfl⟩ := hP
      rw [List.getElem?_map] at ex
      obtain ⟨n, en, rfl⟩ : ∃ n, ns[i]? = some n ∧ nvV n = x := by
        cases hn : ns[i]? with
        | none => rw [hn] at ex; cases ex
        | some n => rw [hn] at ex; exact ⟨n, rfl, Option.some.inj ex⟩
      have hb := b12 n (List.mem_of_getElem? en)
      have hl := prod_lt (l := ns.take i) (fun n hn => b12 n (List.mem_of_mem_take hn)) (by rw [List.length_take]; omega)
      refine ⟨_, rfl, _, rfl, _, _, rfl, rfl, wide_mul (a := 1700) (b := 8) (by rw [Int.natAbs_natCast]; exact hl) (by rw [Int.natAbs_natCast]; exact Nat.lt_of_le_of_lt hb (by decide)) (by decide) (by decide) (by decide), some (nvV n), ?_, rfl⟩
      rw [prod_snoc en, Int.natCast_mul]
      rfl
    · obtain ⟨y2, rfl, rfl⟩ := hP
      rw [List.length_map, List.take_length]
      exact ⟨_, rfl, q⟩
/-! option_numbers: slots 0:kinds 1:entries 2:numbers 3:epoch 4:entry -/
abbrev s_option_numbers : Stmt := topS 24
theorem sc_option_numbers : FnScope ["kinds", "entries", "numbers", "epoch", "entry"] ["kinds", "entries"] (defScope s_option_numbers) := ⟨rfl, rfl, rfl, by decide +kernel, rfl, by decide +kernel, by decide +kernel⟩
def sp_option_numbers : Sp := fun vs H Q _ => ∃ (a b : Addr) (ks : List Str) (es : List En), vs = [.ref a, .ref b] ∧ Sq2 H a (ks.map V.str) ∧ 0 < ks.length ∧ ks.length ≤ 12 ∧ Rec H b es ∧ es.length ≤ 400 ∧ ∀ H' p, Same H H' → H p = none → H' p = some (.lst ((numE ks es).map nvV)) → Q (.ref p) H'
theorem ok_option_numbers (D : Df K mg "option_numbers" s_option_numbers) (T : Tx mg) (G_epochs_of : Has P w K mg base 1 "epochs_of" ["entries"] sp_epochs_of) (G_waiting_options : Has P w K mg base 2 "waiting_options" ["kinds", "epoch"] sp_waiting_options) (G_later_options : Has P w K mg base 1 "later_options" ["kinds", "entry", "waiting"] sp_later_options) : Has P w K mg base 3 "option_numbers" ["kinds", "entries"] sp_option_numbers := by
  refine has_of D sc_option_numbers (fun _ _ _ _ _ _ us hl => match us, hl with | [_, _], _ => rfl) (fun vs H Q E h => ?_) (fun f cdv A outer s H vs Q E hr h => ?_)
  · obtain ⟨_, _, _, _, rfl, _⟩ := h
    rfl
  · obtain ⟨a, b, ks, es, rfl, ha, l0, l12, hb, l4, q⟩ := h
    refine ⟨_, (pss_cons (ps_set (i := 2) sc_option_numbers.nd rfl (by first | exact Or.inl rfl | exact Or.inr rfl) (pe_lst pa_nil))
    (pss_cons (ps_for PassesOwn.never rfl (pi_list (pe_callH G_epochs_of (hr.mono (by omega)) (by rfl) (pa_cons (pv 1) pa_nil))) (pg_name (i := 3) sc_option_numbers.nd rfl (by first | exact Or.inl rfl | exact Or.inr rfl))
      (pss_cons (ps_expr (pe_bm PySem.F.plainAttrs_list PySem.F.slot_list_append PySem.F.type_list_append mt_append (pv 2) (pa_cons (pe_callB call_len_seq (by rfl) T.n_len (by decide +kernel) (pa_cons (pe_callH G_waiting_options (hr.mono (by omega)) (by rfl) (pa_cons (pv 0) (pa_cons (pv 3) pa_nil))) pa_nil)) pa_nil)))
    (pss_one (ps_expr (pe_bm PySem.F.plainAttrs_list PySem.F.slot_list_extend PySem.F.type_list_extend mt_extend (pv 2) (pa_cons (pe_lc (own := [("entry", 4)]) rfl sc_option_numbers.nd (pi_list (pe_slice sl_list (pv 3) (po_some pe_int) po_none)) (blkOk_by (N := ["kinds", "entries", "numbers", "epoch", "entry"]) (sc := defScope s_option_numbers) (by decide +kernel)) (fun _ _ _ _ _ => (pg_name (i := 4) sc_option_numbers.nd rfl (by first | exact Or.inl rfl | exact Or.inr rfl))) (fun _ _ _ _ _ => pts_nil) (fun _ _ _ _ _ => (pe_callB (call_len_seqK (K := K) rfl) (by rfl) T.n_len (by decide +kernel) (pa_cons (pe_callH G_later_options (hr.mono (by omega)) (by rfl) (pa_cons (pv 0) (pa_cons (pv 4) (pa_cons (pe_ix (ix_seqK (K := K) rfl) (pv 0) pe_int (fun _ _ => rfl)) pa_nil)))) pa_nil)))) pa_nil))))))
    (pss_one (ps_ret (pv 2))))), ?_⟩
    refine ⟨Nat.zero_le _, fun N0 nN => ?_⟩
    have aN := sq_ne ha nN
    have sN := same_upd (o := .lst []) nN
    have hN1 : (upd H N0 (.lst [])) N0 = some (.lst []) := upd_same
    have ha1 := ha.same sN
    refine ⟨_, rfl, b, es, rfl, hb.same sN, l4, fun H2 p1 refs s2 np hp1 hrf nrf => ?_⟩
    have p1N : p1 ≠ N0 := fun z => by rw [z, hN1] at np; cases np
    have rfN : ∀ t, V.ref t ∈ refs → t ≠ N0 := fun t ht z => by have := nrf t ht; rw [z, hN1] at this; cases this
    have hN2 := s2 _ _ hN1
    have ha2 := ha1.same s2
    have sH2 : Same H H2 := sN.trans s2
    obtain ⟨k0, kr, rfl⟩ : ∃ k0 kr, ks = k0 :: kr := by
      cases ks with
      | nil => exact absurd l0 (by decide)
      | cons k r => exact ⟨k, r, rfl⟩
    have lrf := Paired.len hrf
    refine ⟨p1, rfl, ⟨refs, .of hp1⟩, for_list (K := K) (a := p1) (xs := refs) (fun i σ H' => ∃ y3, σ = [some (.ref a), some (.ref b), some (.ref N0), y3, none] ∧ But N0 H2 H' ∧ H' N0 = some (.lst ((((epsE es).take i).flatMap (numP (k0 :: kr))).map nvV))) ⟨none, rfl, But.refl, hN2⟩ (fun i σ H' _ hP => ?_) (fun i x σ H3 ex hP => ?_) (fun σ H3 hP => ?_)⟩
    · obtain ⟨_, _, b3, _⟩ := hP
      exact .of (b3 _ _ p1N hp1)
    · obtain ⟨y3, rfl, b3, hN3⟩ := hP
      obtain ⟨ep, eep, t, rfl, hrec⟩ := Paired.at hrf ex
      have mep : ep ∈ epsE es := List.mem_of_getElem? eep
      have ne := eps_ne ep mep
      have lep : ep.length ≤ 400 := Nat.le_trans (ep_len mep) l4
      have tN := rfN t (List.mem_of_getElem? ex)
      have hrec3 := hrec.but hN2 tN b3
      have ha3 := sq_but aN b3 ha2
      have lns : (((epsE es).take i).flatMap (numP (k0 :: kr))).length ≤ 400 := by
        rw [numL_len fun ep he => eps_ne ep (List.mem_of_mem_take he)]
        have := flat_take (L := epsE es) (i := i)
        rw [eps_join] at this
        omega
      rw [take_snoc eep, List.flatMap_append, List.flatMap_cons, List.flatMap_nil, List.append_nil]
      generalize ((epsE es).take i).flatMap (numP (k0 :: kr)) = ns at *
      refine ⟨_, rfl, .inl ⟨rfl, _, SqL.of hN3⟩, _, rfl, _, rfl, a, t, k0 :: kr, ep, rfl, ha3, l12, hrec3, ne, lep, fun H4 p4 s4 n4 h4 => ⟨p4, _, rfl, .inl (.of h4), N0, _, _, rfl, rfl, s4 _ _ hN3, small (by rw [List.length_map]; omega), ?_⟩⟩
      have hN4 := s4 _ _ hN3
      have hrec5 : Rec (upd H4 N0 (.lst (ns.map nvV ++ [.int (((optW (k0 :: kr) ep).map V.str).length : Nat)]))) t ep := (hrec3.same s4).but hN4 tN but_upd
      have ha5 : Sq2 (upd H4 N0 (.lst (ns.map nvV ++ [.int (((optW (k0 :: kr) ep).map V.str).length : Nat)]))) a _ := sq_but aN but_upd (ha3.same s4)
      have b5 : But N0 H2 (upd H4 N0 (.lst (ns.map nvV ++ [.int (((optW (k0 :: kr) ep).map V.str).length : Nat)]))) := b3.trans ((Same.but s4).trans but_upd)
      have hN5 : (upd H4 N0 (.lst (ns.map nvV ++ [.int (((optW (k0 :: kr) ep).map V.str).length : Nat)]))) N0 = some (.lst ((ns ++ [(optW (k0 :: kr) ep).length]).map nvV)) := by
        rw [upd_same, List.map_append, List.length_map]
        rfl
      generalize upd H4 N0 (.lst (ns.map nvV ++ [.int (((optW (k0 :: kr) ep).map V.str).length : Nat)])) = H5 at *
      obtain ⟨xs, hx5, hpx⟩ := hrec5
      have nex : xs ≠ [] := fun z => by rw [z] at hpx; cases hpx; exact ne rfl
      have hpt := pair_tail hpx
      have lxt := Paired.len hpt
      refine ⟨_, rfl, .inl ⟨rfl, _, SqL.of hN5⟩, _, rfl, 1, rfl, t, xs, rfl, .of hx5, fun c nc => ?_⟩
      rw [cut_tlE xs nex]
      have sc := same_upd (o := .lst xs.tail) nc
      have hc6 : (upd H5 c (.lst xs.tail)) c = some (.lst xs.tail) := upd_same
      have ha6 := ha5.same sc
      have hN6 := sc _ _ hN5
      have hpt6 := Paired.imp (fun _ _ z => EnV.same sc z) hpt
      have b6 := b5.trans (Same.but sc)
      generalize upd H5 c (.lst xs.tail) = H6 at *
      refine ⟨c, rfl, ⟨_, .of hc6⟩, fun L nL => lc_list (K := K) (a := c) (xs := xs.tail) (fun j H' => Same H6 H' ∧ H' L = some (.lst (((ep.tail.take j).map fun e => (optL (k0 :: kr) k0 e).length).map nvV))) ⟨same_upd nL, upd_same⟩ (fun j H' _ p => .of (p.1 _ _ hc6)) (fun j x H7 ex p => ?_) (fun H7 p => ?_)⟩
      · obtain ⟨sm, hL⟩ := p
        obtain ⟨e, ee, he⟩ := Paired.at hpt6 ex
        have hj : j < xs.tail.length := (List.getElem?_eq_some_iff.mp ex).1
        have ltl : ep.tail.length ≤ ep.length := by rw [List.length_tail]; omega
        refine ⟨rfl, yesT ⟨_, rfl, _, rfl, _, rfl, ixQ (ha6.same sm) (atI_ofB (Int.le_refl _) rfl) ⟨a, x, k0 :: kr, e, k0, rfl, ha6.same sm, l12, he.same sm, fun H8 p8 s8 n8 h8 => ⟨p8, _, rfl, .inl (.of h8), _, s8 _ _ hL, ?_, same_grow nL (sm.trans s8), ?_⟩⟩⟩⟩
        · simp only [List.length_map, List.length_take]
          exact small (by omega)
        · rw [upd_same, take_snoc ee, List.map_append, List.map_append, List.length_map]
          rfl
      · obtain ⟨sm, hL⟩ := p
        rw [lxt, List.take_length] at hL
        refine ⟨N0, L, _, _, rfl, rfl, sm _ _ hN6, hL, ?_, _, rfl, ?_, ?_⟩
        · simp only [List.length_map, List.length_append, List.length_tail, List.length_cons, List.length_nil]
          exact smallE (by omega)
        · exact b6.trans ((Same.but sm).trans but_upd)
        · rw [upd_same, ← List.map_append, List.append_assoc]
          rfl
    · obtain ⟨y3, rfl, b3, hN3⟩ := hP
      rw [lrf, List.take_length] at hN3
      exact ⟨_, rfl, q _ _ (fun c o e => b3 _ _ (ne_of_none e nN) (sH2 _ _ e)) nN hN3⟩
/-! fitting_count: slots 0:kinds 1:record -/
abbrev s_fitting_count : Stmt := topS 31
theorem sc_fitting_count : FnScope ["kinds", "record"] ["kinds", "record"] (defScope s_fitting_count) := ⟨rfl, rfl, rfl, by decide +kernel, rfl, by decide +kernel, by decide +kernel⟩
def sp_fitting_count : Sp := fun vs H Q _ => ∃ (a : Addr) (v : V) (ks : List Str) (es : List En), vs = [.ref a, v] ∧ Sq2 H a (ks.map V.str) ∧ KsOk ks ∧ RecG H v es ∧ InK ks es ∧ es.length ≤ 400 ∧ ∀ H', Same H H' → Q (.int ((cntE ks es : Nat) : Int)) H'
theorem ok_fitting_count (D : Df K mg "fitting_count" s_fitting_count) (G_checked_entries : Has P w K mg base 4 "checked_entries" ["kinds", "record"] sp_checked_entries) (G_option_numbers : Has P w K mg base 3 "option_numbers" ["kinds", "entries"] sp_option_numbers) (G_product_of : Has P w K mg base 1 "product_of" ["numbers"] sp_product_of) : Has P w K mg base 5 "fitting_count" ["kinds", "record"] sp_fitting_count := by
  refine has_of D sc_fitting_count (fun _ _ _ _ _ _ us hl => match us, hl with | [_, _], _ => rfl) (fun vs H Q E h => ?_) (fun f cdv A outer s H vs Q E hr h => ?_)
  · obtain ⟨_, _, _, _, rfl, _⟩ := h
    rfl
  · obtain ⟨a, v, ks, es, rfl, ha, kso, hv, ink, l4, q⟩ := h
    refine ⟨_, (pss_one (ps_ret (pe_callH G_product_of (hr.mono (by omega)) (by rfl) (pa_cons (pe_callH G_option_numbers (hr.mono (by omega)) (by rfl) (pa_cons (pv 0) (pa_cons (pe_callH G_checked_entries (hr.mono (by omega)) (by rfl) (pa_cons (pv 0) (pa_cons (pv 1) pa_nil))) pa_nil))) pa_nil)))), ?_⟩
    exact ⟨_, rfl, _, rfl, _, rfl, a, v, ks, es, rfl, ha, kso, hv, ink, l4, fun H1 p1 s1 n1 h1 => ⟨a, p1, ks, es, rfl, ha.same s1, kso.1, kso.2.1, h1, l4, fun H2 p2 s2 n2 h2 => ⟨p2, _, rfl, h2, by rw [numE_len]; exact l4, numE_le kso.1 kso.2.1, q _ (s1.trans s2)⟩⟩⟩
end
end UP

set_option Elab.async false
set_option linter.all false
set_option maxRecDepth 100000
set_option maxHeartbeats 4000000
set_option pp.maxSteps 900
namespace UP
open PySem PySem.Spec PyProof.Rows L2
def StrsV (H : Hp) (v : V) (l : List Str) : Prop := ∃ t, v = .ref t ∧ H t = some (.lst (l.map V.str))
theorem StrsV.same {H H' : Hp} {v : V} {l : List Str} (s : Same H H') (h : StrsV H v l) : StrsV H' v l := by
  obtain ⟨t, e, h⟩ := h
  exact ⟨t, e, s _ _ h⟩
theorem strs_but {D : Addr} {H H' : Hp} (b : But D H H') {rs : List V} {os : List (List Str)} (h : Paired (StrsV H) rs os) : (∀ t, V.ref t ∈ rs → t ≠ D) → Paired (StrsV H') rs os := by
  induction h with
  | nil => intro _; exact .nil
  | @cons x l _ _ h _ ih =>
    intro n
    obtain ⟨t, rfl, h⟩ := h
    exact .cons ⟨t, rfl, b _ _ (n t (List.mem_cons_self ..)) h⟩ (ih fun t ht => n t (List.mem_cons_of_mem _ ht))
theorem optP_len {ks : List Str} {ep : List En} {w : Str} (h : ep ≠ []) : (optP ks ep w).length = ep.length := by
  unfold optP
  rw [List.length_cons, List.length_map, List.length_tail]
  have := List.length_pos_iff.mpr h
  omega
theorem optE_snoc (ks : List Str) (ep : List En) : ∀ (L : List (List En)) (its : List Str), optE ks (L ++ [ep]) its = optE ks L its ++ optP ks ep ((its.drop L.flatten.length).headD "")
  | [], its => by
    rw [List.nil_append, optE, optE, optE, List.append_nil, List.nil_append]
    rfl
  | a :: L, its => by
    rw [List.cons_append, optE, optE, optE_snoc ks ep L, List.append_assoc, List.drop_drop, List.flatten_cons, List.length_append]
theorem optE_len {ks : List Str} : ∀ {L : List (List En)} {its : List Str}, (∀ ep ∈ L, ep ≠ []) → (optE ks L its).length = L.flatten.length
  | [], _, _ => rfl
  | ep :: t, its, h => by
    rw [optE, List.flatten_cons, List.length_append, List.length_append, optP_len (h ep (List.mem_cons_self ..)), optE_len fun x hx => h x (List.mem_cons_of_mem _ hx)]
theorem optE_le {ks : List Str} (h0 : 0 < ks.length) : ∀ {L : List (List En)} {its : List Str}, ∀ o ∈ optE ks L its, o.length ≤ ks.length
  | [], _, o, h => by cases h
  | ep :: t, its, o, h => by
    rw [optE] at h
    rcases List.mem_append.mp h with z | z
    · unfold optP at z
      rcases List.mem_cons.mp z with e | e
      · rw [e]; exact optW_len ks ep
      · obtain ⟨x, _, rfl⟩ := List.mem_map.mp e
        exact optL_len ks _ x h0
    · exact optE_le h0 o z
theorem RdE.same {H H' : Hp} (s : Same H H') {a : Addr} {u : HO} (h : Rd H a u) : Rd H' a u := h.elim (fun z => .inl (s _ _ z)) fun ⟨o, z⟩ => .inr ⟨o, s _ _ z⟩
theorem Sd.here_same {K : PySem.W.Frag} {H H' : Hp} (s : Same H H') {S : Sd} (h : S.here K H) : S.here K H' := by
  cases S with
  | lst a xs => exact Or.elim h (fun z => .inl (RdE.same s z)) .inr
  | tup a xs => exact Or.elim h (fun z => .inl (RdE.same s z)) .inr
  | str z t => exact h
/-- an index among the options -/
def stepI (acc : Nat) (p : Str × List Str) : Nat := acc * p.2.length + p.2.idxOf p.1
def ixZ (Z : List (Str × List Str)) : Nat := Z.foldl stepI 0
theorem ixZ_snoc {Z : List (Str × List Str)} {i : Nat} {p : Str × List Str} (h : Z[i]? = some p) : ixZ (Z.take (i + 1)) = stepI (ixZ (Z.take i)) p := by
  unfold ixZ
  rw [take_snoc h, List.foldl_append]
  rfl
theorem idx_lt {o : List Str} {x : Str} (h : x ∈ o) : o.idxOf x < o.length := List.idxOf_lt_length_of_mem h
theorem fold_le : ∀ (Z : List (Str × List Str)) (a : Nat), (∀ p ∈ Z, p.1 ∈ p.2 ∧ p.2.length ≤ 12) → Z.foldl stepI a + 1 ≤ (a + 1) * 12 ^ Z.length
  | [], a, _ => by show a + 1 ≤ (a + 1) * 1; omega
  | p :: t, a, h => by
    have h1 := fold_le t (stepI a p) fun x hx => h x (List.mem_cons_of_mem _ hx)
    obtain ⟨h2, h3⟩ := h p (List.mem_cons_self ..)
    have h4 := idx_lt h2
    show t.foldl stepI (stepI a p) + 1 ≤ (a + 1) * 12 ^ (t.length + 1)
    have h5 : stepI a p + 1 ≤ (a + 1) * 12 := by
      unfold stepI
      have : a * p.2.length ≤ a * 12 := Nat.mul_le_mul_left _ h3
      omega
    rw [Nat.pow_succ, Nat.mul_comm (12 ^ t.length) 12, ← Nat.mul_assoc]
    exact Nat.le_trans h1 (Nat.mul_le_mul_right _ h5)
theorem ixZ_lt {Z : List (Str × List Str)} (h : ∀ p ∈ Z, p.1 ∈ p.2 ∧ p.2.length ≤ 12) (l : Z.length ≤ 400) : ixZ Z < 2 ^ 1700 := by
  have h1 := fold_le Z 0 h
  have h2 := p12 (k := Z.length) (by omega)
  unfold ixZ
  omega
theorem zip_at {α β : Type} {xs : List α} {ys : List β} {i : Nat} {x : α} {y : β} (h1 : xs[i]? = some x) (h2 : ys[i]? = some y) : (xs.zip ys)[i]? = some (x, y) := by
  rw [List.getElem?_zip_eq_some]
  exact ⟨h1, h2⟩
section
variable {P : Program} {w : World} {K : PySem.W.Frag} {mg : Str → Option Value} {base : Heap}
def FitI (ks : List Str) (es : List En) (its : List Str) : Prop := its.length = es.length ∧ (∀ x ∈ its, KindOk x) ∧ ∀ p ∈ its.zip (optE ks (epsE es) its), p.1 ∈ p.2
end
end UP

set_option Elab.async false
set_option linter.all false
set_option maxRecDepth 100000
set_option maxHeartbeats 4000000
set_option pp.maxSteps 900
namespace UP
open PySem PySem.Spec PyProof.Rows L2
/-! ### conflicts -/
inductive Cf where
  | lev (l : Nat)
  | thr (w : Str) (a l : Nat)
def cfL : Cf → List V
  | .lev l => [.str "level", nvV l]
  | .thr w a l => [.str w, nvV a, nvV l]
def CfV (H : Hp) (v : V) (c : Cf) : Prop := ∃ t, v = .ref t ∧ H t = some (.tup (cfL c))
theorem CfV.same {H H' : Hp} {v : V} {c : Cf} (s : Same H H') (h : CfV H v c) : CfV H' v c := by
  obtain ⟨t, e, h⟩ := h
  exact ⟨t, e, s _ _ h⟩
theorem CfV.grow {H : Hp} {D : Addr} {acc : List V} {o : HO} {v : V} {c : Cf} (hD : H D = some (.lst acc)) (h : CfV H v c) : CfV (upd H D o) v c := by
  obtain ⟨t, e, h⟩ := h
  exact ⟨t, e, by rw [upd_ne (ne_of h hD (by intro y; cases y))]; exact h⟩
def CfO (H : Hp) (v : V) : Option Cf → Prop
  | none => v = .non
  | some c => CfV H v c
theorem CfO.same {H H' : Hp} {v : V} {c : Option Cf} (s : Same H H') (h : CfO H v c) : CfO H' v c := by
  cases c with
  | none => exact h
  | some c => exact CfV.same s h
def enA (es : List En) (a : Nat) : En := es.getD a (none, false)
theorem enA_at {es : List En} {a : Nat} {e : En} (h : es[a]? = some e) : enA es a = e := by
  unfold enA
  rw [List.getD_eq_getElem?_getD, h]
  rfl
def othE (es : List En) (f l : Nat) : List Nat := (List.range' f (l - f)).filter fun a => (enA es l).1.isSome && (enA es a).1.isSome
def btwE (es : List En) (f l : Nat) : List Cf :=
  ((othE es f l).filter fun a => (decide ((enA es l).2 = (enA es a).2) && decide ((enA es a).2 = true)) && !decide ((enA es a).1 = (enA es l).1)).map (Cf.thr "waits" · l) ++
  ((othE es f l).filter fun a => (!decide ((enA es l).2 = (enA es a).2)) && decide ((enA es a).1 = (enA es l).1)).map (Cf.thr "leaves" · l)
def lastB (ep : List En) : Bool := (enA ep (ep.length - 1)).2
def exhE (ks : List Str) (ep : List En) : Bool := ((knE ep true).isEmpty && ks.all fun k => decide (k ∈ knE ep false)) || (decide (ks.length = 1) && !lastB ep)
def cutE (es : List En) (f l : Nat) : List En := (es.drop f).take (l + 1 - f)
def cfsE (ks : List Str) (es : List En) (f l : Nat) : List Cf :=
  if decide (f = l) && !(enA es l).2 then [.lev l] else btwE es f l ++ (if exhE ks (cutE es f l) then [.thr "all" f l] else [])
def cfEp (ks : List Str) (es : List En) (f n : Nat) : Option Cf := (List.range n).findSome? fun j => (cfsE ks es f (f + j)).head?
def cfGo (ks : List Str) (es : List En) : Nat → List (List En) → Option Cf
  | _, [] => none
  | f, ep :: r => (cfEp ks es f ep.length).or (cfGo ks es (f + ep.length) r)
def cfE (ks : List Str) (es : List En) : Option Cf := cfGo ks es 0 (epsE es)
theorem ko_dec (a b : Option Str) : decide (koV a = koV b) = decide (a = b) := by
  refine decide_eq_decide.mpr ⟨fun h => ?_, fun h => congrArg koV h⟩
  cases a <;> cases b
  · rfl
  · cases h
  · cases h
  · exact congrArg some (V.str.inj h)
theorem ko_scal (a b : Option Str) : scal (koV a) (koV b) = true := by cases a <;> cases b <;> rfl
theorem ko_non (a : Option Str) : (!decide (koV a = V.non)) = a.isSome := by
  cases a with
  | none => exact yes_non
  | some k => exact no_non k
theorem btw_len (es : List En) (f l : Nat) : (othE es f l).length ≤ l - f := by
  unfold othE
  refine Nat.le_trans (List.length_filter_le _ _) ?_
  rw [List.length_range']
  exact Nat.le_refl _
theorem ent_at {H : Hp} {xs : List V} {es : List En} {k : Nat} (hp : Paired (EnV H) xs es) (h : k < es.length) : ∃ t, atI xs (k : Int) = some (.ref t) ∧ H t = some (.tup [koV (enA es k).1, .str (actS (enA es k).2)]) := by
  obtain ⟨x, ex, hx⟩ := Paired.at' hp (List.getElem?_eq_getElem h)
  obtain ⟨t, rfl, ht⟩ := hx
  refine ⟨t, atI_ofB (by omega) (by rw [Int.toNat_natCast]; exact ex), ?_⟩
  rw [enA_at (List.getElem?_eq_getElem h)]
  exact ht
theorem range_snoc (f n : Nat) : List.range' f (n + 1) = List.range' f n ++ [f + n] := by
  rw [List.range'_1_concat]
theorem filt_app1 {α : Type} (p : α → Bool) (l : List α) (x : α) : (l ++ [x]).filter p = l.filter p ++ if p x = true then [x] else [] := by
  rw [List.filter_append]
  congr 1
  cases e : p x <;> simp [e]
theorem nat_at {O : List Nat} {i : Nat} {x : V} (h : (O.map nvV)[i]? = some x) : ∃ k, O[i]? = some k ∧ x = nvV k := by
  rw [List.getElem?_map] at h
  cases hk : O[i]? with
  | none => rw [hk] at h; cases h
  | some k => rw [hk] at h; exact ⟨k, rfl, (Option.some.inj h).symm⟩
/-- [k for k in O if p(k)] -/
theorem lc_nats {K : PySem.W.Frag} {a L : Addr} {O : List Nat} {sl : Nat} {tt : TT} {te : TE} {vs : List Nat} {σ : L2.St} {H1 : Hp} {Qd : Hp → Prop} (p : Nat → Bool) (hO : H1 a = some (.lst (O.map nvV))) (lO : O.length ≤ 400) (nL : H1 L = none) (hw : ∀ x, wipe ((wipe σ vs).set sl (some x)) vs = wipe σ vs)
    (step : ∀ k H (R : Bool → Hp → Prop), k ∈ O → Same H1 H → R (p k) H → tt ((wipe σ vs).set sl (some (nvV k))) H R) (hte : ∀ k H (R : VK), R (nvV k) H → te ((wipe σ vs).set sl (some (nvV k))) H R)
    (hd : ∀ H, Same H1 H → H L = some (.lst ((O.filter p).map nvV)) → Qd H) :
    ∃ W : Nat → Nat → Hp → Prop, (∃ m, W 0 m (upd H1 L (.lst []))) ∧ ∀ i m H, W i m H →
      ((Itl K a).stop i H ∧ Qd H) ∨ ((Itl K a).go i H ∧ ∃ Nx : Hp → Prop, (∀ H', Nx H' → ∃ m', m' < m ∧ W (i + 1) m' H') ∧ ∀ x H', (Itl K a).yld i H x H' → gName sl x (wipe σ vs) H' fun σ2 H2 => wipe σ2 vs = wipe σ vs ∧ tt σ2 H2 fun b H3 =>
        if b = true then te σ2 H3 fun y H4 => ∃ acc, H4 L = some (.lst acc) ∧ acc.length < sizeLine ∧ Nx (upd H4 L (.lst (acc ++ [y]))) else Nx H3) := by
  refine lc_list (K := K) (a := a) (xs := O.map nvV) (fun i H' => Same H1 H' ∧ H' L = some (.lst (((O.take i).filter p).map nvV))) ⟨same_upd nL, upd_same⟩ (fun i H' _ h => .of (h.1 _ _ hO)) (fun i x H2 ex hP => ?_) (fun H2 hP => ?_)
  · obtain ⟨sm, hL⟩ := hP
    obtain ⟨k, ek, rfl⟩ := nat_at ex
    have hi : i < O.length := (List.getElem?_eq_some_iff.mp ek).1
    refine ⟨hw _, step k H2 _ (List.mem_of_getElem? ek) sm ?_⟩
    show (if p k = true then _ else _)
    rw [take_snoc ek, filt_app1]
    cases e : p k with
    | true =>
      refine iteP rfl (hte k H2 _ ⟨_, hL, ?_, same_grow nL sm, ?_⟩)
      · have := List.length_filter_le p (O.take i)
        rw [List.length_take] at this
        rw [List.length_map]
        exact small (by omega)
      · rw [upd_same, if_pos rfl, List.map_append]
        rfl
    | false =>
      refine iteN rfl ⟨sm, ?_⟩
      rw [if_neg (by decide), List.append_nil]
      exact hL
  · obtain ⟨sm, hL⟩ := hP
    rw [List.length_map, List.take_length] at hL
    exact hd _ sm hL
/-- [(w, k, l) for k in O] -/
theorem lc_thr {K : PySem.W.Frag} {a L : Addr} {O : List Nat} {sl : Nat} {te : TE} {vs : List Nat} {σ : L2.St} {H1 : Hp} {Qd : Hp → Prop} (w : Str) (l : Nat) (hO : H1 a = some (.lst (O.map nvV))) (lO : O.length ≤ 400) (nL : H1 L = none) (hw : ∀ x, wipe ((wipe σ vs).set sl (some x)) vs = wipe σ vs)
    (hte : ∀ k H (R : VK), (∀ t, H t = none → R (.ref t) (upd H t (.tup [.str w, nvV k, nvV l]))) → te ((wipe σ vs).set sl (some (nvV k))) H R)
    (hd : ∀ H xs, Same H1 H → H L = some (.lst xs) → Paired (CfV H) xs (O.map (Cf.thr w · l)) → Qd H) :
    ∃ W : Nat → Nat → Hp → Prop, (∃ m, W 0 m (upd H1 L (.lst []))) ∧ ∀ i m H, W i m H →
      ((Itl K a).stop i H ∧ Qd H) ∨ ((Itl K a).go i H ∧ ∃ Nx : Hp → Prop, (∀ H', Nx H' → ∃ m', m' < m ∧ W (i + 1) m' H') ∧ ∀ x H', (Itl K a).yld i H x H' → gName sl x (wipe σ vs) H' fun σ2 H2 => wipe σ2 vs = wipe σ vs ∧ tYes σ2 H2 fun b H3 =>
        if b = true then te σ2 H3 fun y H4 => ∃ acc, H4 L = some (.lst acc) ∧ acc.length < sizeLine ∧ Nx (upd H4 L (.lst (acc ++ [y]))) else Nx H3) := by
  refine lc_list (K := K) (a := a) (xs := O.map nvV) (fun i H' => Same H1 H' ∧ ∃ xs, H' L = some (.lst xs) ∧ Paired (CfV H') xs ((O.take i).map (Cf.thr w · l))) ⟨same_upd nL, [], upd_same, .nil⟩ (fun i H' _ h => .of (h.1 _ _ hO)) (fun i x H2 ex hP => ?_) (fun H2 hP => ?_)
  · obtain ⟨sm, xs, hL, hp⟩ := hP
    obtain ⟨k, ek, rfl⟩ := nat_at ex
    have hi : i < O.length := (List.getElem?_eq_some_iff.mp ek).1
    refine ⟨hw _, yesT (hte k H2 _ fun t nt => ⟨_, same_upd nt _ _ hL, ?_, same_grow nL (sm.trans (same_upd nt)), _, upd_same, ?_⟩)⟩
    · have := Paired.len hp
      rw [List.length_map, List.length_take] at this
      exact small (by omega)
    · rw [take_snoc ek, List.map_append]
      exact Paired.app (Paired.imp (fun _ _ z => CfV.grow (same_upd nt _ _ hL) (CfV.same (same_upd nt) z)) hp) (.cons (CfV.grow (same_upd nt _ _ hL) ⟨t, rfl, upd_same⟩) .nil)
  · obtain ⟨sm, xs, hL, hp⟩ := hP
    rw [List.length_map, List.take_length] at hp
    exact hd _ xs sm hL hp
theorem cut_fl {xs : List V} {f l : Nat} (h1 : f ≤ l) (h2 : l < xs.length) : cutV xs (some (f : Int)) (some ((l + 1 : Nat) : Int)) = (xs.drop f).take (l + 1 - f) := by
  unfold cutV
  rw [HT.sIx_nat, HT.sIx_nat, show min f xs.length = f by omega, show min (l + 1) xs.length = l + 1 by omega]
section
variable {P : Program} {w : World} {K : PySem.W.Frag} {mg : Str → Option Value} {base : Heap}
/-! conflicts_between: slots 0:entries 1:first 2:last 3:others 4:waits 5:leaves 6:kind 7:action 8:at -/
abbrev s_conflicts_between : Stmt := topS 25
theorem sc_conflicts_between : FnScope ["entries", "first", "last", "others", "waits", "leaves", "kind", "action", "at"] ["entries", "first", "last"] (defScope s_conflicts_between) := ⟨rfl, rfl, rfl, by decide +kernel, rfl, by decide +kernel, by decide +kernel⟩
def sp_conflicts_between : Sp := fun vs H Q _ => ∃ (a : Addr) (es : List En) (f l : Nat), vs = [.ref a, nvV f, nvV l] ∧ Rec H a es ∧ es.length ≤ 400 ∧ f ≤ l ∧ l < es.length ∧ ∀ H' p xs, Same H H' → H p = none → H' p = some (.lst xs) → Paired (CfV H') xs (btwE es f l) → Q (.ref p) H'
theorem ok_conflicts_between (D : Df K mg "conflicts_between" s_conflicts_between) (T : Tx mg) : Has P w K mg base 1 "conflicts_between" ["entries", "first", "last"] sp_conflicts_between := by
  refine has_of D sc_conflicts_between (fun _ _ _ _ _ _ us hl => match us, hl with | [_, _, _], _ => rfl) (fun vs H Q E h => ?_) (fun f cdv A outer s H vs Q E hr h => ?_)
  · obtain ⟨_, _, _, _, rfl, _⟩ := h
    rfl
  · obtain ⟨a, es, fi, la, rfl, ⟨xs, hx, hp⟩, l4, fl, ll, q⟩ := h
    refine ⟨_, (pss_cons (ps_asg (pe_ix ix_list (pv 0) (pv 2) (fun _ _ => rfl)) (pg_tup rfl (pgs_cons (pg_name (i := 6) sc_conflicts_between.nd rfl (by first | exact Or.inl rfl | exact Or.inr rfl)) (pgs_cons (pg_name (i := 7) sc_conflicts_between.nd rfl (by first | exact Or.inl rfl | exact Or.inr rfl)) pgs_nil))))
    (pss_cons (ps_setLc (i := 3) (own := [("at", 8)]) rfl sc_conflicts_between.nd rfl rfl (sw_true rfl rfl rfl (by decide +kernel)) (pi_range2 (by rfl) T.n_range (pa_cons (pv 1) (pa_cons (pv 2) pa_nil))) (blkOk_by (N := ["entries", "first", "last", "others", "waits", "leaves", "kind", "action", "at"]) (sc := defScope s_conflicts_between) (by decide +kernel)) (fun _ _ _ _ _ => (pg_name (i := 8) sc_conflicts_between.nd rfl (by first | exact Or.inl rfl | exact Or.inr rfl))) (fun _ _ _ _ _ => pts_one (PW.pt (pw_and (pt_cmpR op_notN (pv 6) pe_non (nomark _)) (pw_and1 (pt_cmpR op_notN (pe_ix (ix_tupK (K := K) rfl) (pe_ix (ix_listK (K := K) rfl) (pv 0) (pv 8) (fun _ _ => rfl)) pe_int (fun _ _ => rfl)) pe_non (nomark _)))))) (fun _ _ _ _ _ => (pv 8)))
    (pss_cons (ps_setLc (i := 4) (own := [("at", 8)]) rfl sc_conflicts_between.nd rfl rfl (sw_true rfl rfl rfl (by decide +kernel)) (pi_list (pv 3)) (blkOk_by (N := ["entries", "first", "last", "others", "waits", "leaves", "kind", "action", "at"]) (sc := defScope s_conflicts_between) (by decide +kernel)) (fun _ _ _ _ _ => (pg_name (i := 8) sc_conflicts_between.nd rfl (by first | exact Or.inl rfl | exact Or.inr rfl))) (fun _ _ _ _ _ => pts_one (PW.pt (pw_and (pt_chain op_eq op_eq (pv 7) (pe_ix (ix_tupK (K := K) rfl) (pe_ix (ix_listK (K := K) rfl) (pv 0) (pv 8) (fun _ _ => rfl)) pe_int (fun _ _ => rfl)) pe_str) (pw_and1 (pt_cmpR op_ne (pe_ix (ix_tupK (K := K) rfl) (pe_ix (ix_listK (K := K) rfl) (pv 0) (pv 8) (fun _ _ => rfl)) pe_int (fun _ _ => rfl)) (pv 6) (nomark _)))))) (fun _ _ _ _ _ => (pv 8)))
    (pss_cons (ps_setLc (i := 5) (own := [("at", 8)]) rfl sc_conflicts_between.nd rfl rfl (sw_true rfl rfl rfl (by decide +kernel)) (pi_list (pv 3)) (blkOk_by (N := ["entries", "first", "last", "others", "waits", "leaves", "kind", "action", "at"]) (sc := defScope s_conflicts_between) (by decide +kernel)) (fun _ _ _ _ _ => (pg_name (i := 8) sc_conflicts_between.nd rfl (by first | exact Or.inl rfl | exact Or.inr rfl))) (fun _ _ _ _ _ => pts_one (PW.pt (pw_and (pt_cmpR op_ne (pv 7) (pe_ix (ix_tupK (K := K) rfl) (pe_ix (ix_listK (K := K) rfl) (pv 0) (pv 8) (fun _ _ => rfl)) pe_int (fun _ _ => rfl)) (nomark _)) (pw_and1 (pt_cmpR op_eq (pe_ix (ix_tupK (K := K) rfl) (pe_ix (ix_listK (K := K) rfl) (pv 0) (pv 8) (fun _ _ => rfl)) pe_int (fun _ _ => rfl)) (pv 6) (nomark _)))))) (fun _ _ _ _ _ => (pv 8)))
    (pss_one (ps_ret (pe_op op_cat (pe_lc (own := [("at", 8)]) rfl sc_conflicts_between.nd (pi_list (pv 4)) (blkOk_by (N := ["entries", "first", "last", "others", "waits", "leaves", "kind", "action", "at"]) (sc := defScope s_conflicts_between) (by decide +kernel)) (fun _ _ _ _ _ => (pg_name (i := 8) sc_conflicts_between.nd rfl (by first | exact Or.inl rfl | exact Or.inr rfl))) (fun _ _ _ _ _ => pts_nil) (fun _ _ _ _ _ => (pe_tup (pa_cons pe_str (pa_cons (pv 8) (pa_cons (pv 2) pa_nil)))))) (pe_lc (own := [("at", 8)]) rfl sc_conflicts_between.nd (pi_list (pv 5)) (blkOk_by (N := ["entries", "first", "last", "others", "waits", "leaves", "kind", "action", "at"]) (sc := defScope s_conflicts_between) (by decide +kernel)) (fun _ _ _ _ _ => (pg_name (i := 8) sc_conflicts_between.nd rfl (by first | exact Or.inl rfl | exact Or.inr rfl))) (fun _ _ _ _ _ => pts_nil) (fun _ _ _ _ _ => (pe_tup (pa_cons pe_str (pa_cons (pv 8) (pa_cons (pv 2) pa_nil))))))))))))), ?_⟩
    obtain ⟨tl, etl, htl⟩ := ent_at hp ll
    refine ⟨_, rfl, _, rfl, a, xs, (la : Int), _, rfl, rfl, .of hx, etl, tl, _, rfl, .of htl, rfl, _, _, rfl, _, _, rfl, rfl, ?_⟩
    have lth := btw_len es fi la
    have p62 : ∀ n : Nat, n ≤ 400 → (n : Int) < 2 ^ 62 := fun n h => by omega
    -- others
    refine ⟨_, rfl, _, rfl, (fi : Int), (la : Int), rfl, ⟨by omega, p62 fi (by omega), by omega, p62 la (by omega)⟩, fun L nL => lc_range (lo := (fi : Int)) (n := ((la : Int) - (fi : Int)).toNat) (fun i H' => Same H H' ∧ H' L = some (.lst (((List.range' fi i).filter fun a => (enA es la).1.isSome && (enA es a).1.isSome).map nvV))) ⟨same_upd nL, upd_same⟩ (fun i H1 hi hP => ?_) (fun H1 hP => ?_)⟩
    · obtain ⟨sm, hL⟩ := hP
      have hk : fi + i < es.length := by omega
      obtain ⟨t, et, ht⟩ := ent_at hp hk
      have ec : (fi : Int) + (i : Int) = ((fi + i : Nat) : Int) := by omega
      have hlen : (((List.range' fi i).filter fun a => (enA es la).1.isSome && (enA es a).1.isSome).map nvV).length < sizeLine := by
        have := List.length_filter_le (fun a => (enA es la).1.isSome && (enA es a).1.isSome) (List.range' fi i)
        rw [List.length_range'] at this
        rw [List.length_map]
        exact small (by omega)
      rw [ec, range_snoc, filt_app1]
      refine ⟨rfl, _, rfl, rfl, _, rfl, ?_⟩
      rw [ko_non]
      by_cases c1 : (enA es la).1.isSome = true
      · refine iteP c1 ⟨_, rfl, _, rfl, a, xs, ((fi + i : Nat) : Int), _, rfl, rfl, .of (sm _ _ hx), et, t, _, 0, _, rfl, rfl, .of (sm _ _ ht), rfl, rfl, _, rfl, ?_⟩
        rw [ko_non, c1, Bool.true_and]
        by_cases c2 : (enA es (fi + i)).1.isSome = true
        · refine iteP c2 ⟨_, rfl, _, hL, hlen, same_grow nL sm, ?_⟩
          rw [upd_same, if_pos c2, List.map_append, c1]
          simp only [Bool.true_and]
          rfl
        · have c2 : (enA es (fi + i)).1.isSome = false := by simpa using c2
          refine iteN c2 ⟨sm, ?_⟩
          rw [if_neg (by rw [c2]; decide), List.append_nil]
          rw [c1] at hL
          simp only [Bool.true_and] at hL
          exact hL
      · have c1 : (enA es la).1.isSome = false := by simpa using c1
        refine iteN c1 (iteF ⟨sm, ?_⟩)
        rw [c1, Bool.false_and, if_neg (by decide), List.append_nil]
        rw [c1] at hL
        simp only [Bool.false_and] at hL ⊢
        exact hL
    obtain ⟨s1, hL⟩ := hP
    rw [show ((la : Int) - (fi : Int)).toNat = la - fi by omega] at hL
    have hL : H1 L = some (.lst ((othE es fi la).map nvV)) := hL
    have othl : ∀ k ∈ othE es fi la, k < es.length := fun k hk => by
      have := (List.mem_range'.mp (List.mem_filter.mp hk).1)
      omega
    have hx1 := s1 _ _ hx
    have hp1 := Paired.imp (fun _ _ z => EnV.same s1 z) hp
    unfold btwE at q
    generalize othE es fi la = O at *
    have lO : O.length ≤ 400 := by omega
    -- waits
    refine ⟨_, rfl, L, rfl, ⟨_, .of hL⟩, fun M nM => lc_nats (K := K) (fun a => (decide ((enA es la).2 = (enA es a).2) && decide ((enA es a).2 = true)) && !decide ((enA es a).1 = (enA es la).1)) hL lO nM (fun x => rfl) (fun k H2 R mk sm hR => ?_) (fun k H2 R hR => ⟨_, rfl, hR⟩) (fun H2 s2 hM => ?_)⟩
    · obtain ⟨t, et, ht⟩ := ent_at hp1 (othl k mk)
      refine ⟨_, rfl, _, rfl, _, rfl, a, xs, (k : Int), _, rfl, rfl, .of (sm _ _ hx1), et, t, _, 1, _, rfl, rfl, .of (sm _ _ ht), rfl, rfl, _, rfl, ?_⟩
      rw [act_eq]
      cases c1 : decide ((enA es la).2 = (enA es k).2) with
      | false =>
        refine iteF ⟨_, rfl, iteF ?_⟩
        rw [c1, Bool.false_and, Bool.false_and] at hR
        exact hR
      | true =>
        rw [c1, Bool.true_and] at hR
        refine iteT ⟨rfl, _, rfl, ?_⟩
        show (if decide (V.str (actS (enA es k).2) = V.str (actS true)) = true then _ else _)
        rw [act_eq]
        cases c2 : decide ((enA es k).2 = true) with
        | false =>
          refine iteF ?_
          rw [c2, Bool.false_and] at hR
          exact hR
        | true =>
          rw [c2, Bool.true_and] at hR
          refine iteT ⟨_, rfl, _, rfl, a, xs, (k : Int), _, rfl, rfl, .of (sm _ _ hx1), et, t, _, 0, _, rfl, rfl, .of (sm _ _ ht), rfl, _, rfl, ko_scal _ _, _, rfl, ?_⟩
          rw [ko_dec]
          exact hR
    -- leaves
    refine ⟨_, rfl, L, rfl, ⟨_, .of (s2 _ _ hL)⟩, fun M2 nM2 => lc_nats (K := K) (fun a => (!decide ((enA es la).2 = (enA es a).2)) && decide ((enA es a).1 = (enA es la).1)) (s2 _ _ hL) lO nM2 (fun x => rfl) (fun k H3 R mk sm hR => ?_) (fun k H3 R hR => ⟨_, rfl, hR⟩) (fun H3 s3 hM2 => ?_)⟩
    · obtain ⟨t, et, ht⟩ := ent_at hp1 (othl k mk)
      have hx3 := sm _ _ (s2 _ _ hx1)
      have ht3 := sm _ _ (s2 _ _ ht)
      refine ⟨_, rfl, _, rfl, _, rfl, a, xs, (k : Int), _, rfl, rfl, .of hx3, et, t, _, 1, _, rfl, rfl, .of ht3, rfl, rfl, _, rfl, ?_⟩
      rw [act_eq]
      cases c1 : decide ((enA es la).2 = (enA es k).2) with
      | true =>
        refine iteF ?_
        rw [c1, Bool.not_true, Bool.false_and] at hR
        exact hR
      | false =>
        rw [c1, Bool.not_false, Bool.true_and] at hR
        refine iteT ⟨_, rfl, _, rfl, a, xs, (k : Int), _, rfl, rfl, .of hx3, et, t, _, 0, _, rfl, rfl, .of ht3, rfl, _, rfl, ko_scal _ _, _, rfl, ?_⟩
        rw [ko_dec]
        exact hR
    have hM := s3 _ _ hM
    have s13 := s1.trans (s2.trans s3)
    have lf1 := List.length_filter_le (fun a => (decide ((enA es la).2 = (enA es a).2) && decide ((enA es a).2 = true)) && !decide ((enA es a).1 = (enA es la).1)) O
    have lf2 := List.length_filter_le (fun a => (!decide ((enA es la).2 = (enA es a).2)) && decide ((enA es a).1 = (enA es la).1)) O
    generalize O.filter (fun a => (decide ((enA es la).2 = (enA es a).2) && decide ((enA es a).2 = true)) && !decide ((enA es a).1 = (enA es la).1)) = O1 at *
    generalize O.filter (fun a => (!decide ((enA es la).2 = (enA es a).2)) && decide ((enA es a).1 = (enA es la).1)) = O2 at *
    refine ⟨_, rfl, M, rfl, ⟨_, .of hM⟩, fun A1 nA1 => lc_thr (K := K) "waits" la hM (by omega) nA1 (fun x => rfl) (fun k H4 R hR => ⟨_, rfl, _, rfl, (by show 3 ≤ sizeLine; decide), hR⟩) (fun H4 x4 s4 h4 p4 => ?_)⟩
    refine ⟨_, rfl, M2, rfl, ⟨_, .of (s4 _ _ hM2)⟩, fun A2 nA2 => lc_thr (K := K) "leaves" la (s4 _ _ hM2) (by omega) nA2 (fun x => rfl) (fun k H5 R hR => ⟨_, rfl, _, rfl, (by show 3 ≤ sizeLine; decide), hR⟩) (fun H5 x5 s5 h5 p5 => ?_)⟩
    have e4 := Paired.len p4
    have e5 := Paired.len p5
    rw [List.length_map] at e4 e5
    have s5' := s13.trans (s4.trans s5)
    refine ⟨A1, A2, _, _, rfl, rfl, s5 _ _ h4, h5, smallE (by omega), fun Z nZ => q _ _ _ (s5'.trans (same_upd nZ)) (s5'.free nZ) upd_same ?_⟩
    exact Paired.imp (fun _ _ z => CfV.same (same_upd nZ) z) (Paired.app (Paired.imp (fun _ _ z => CfV.same s5 z) p4) p5)
end
end UP

set_option Elab.async false
set_option linter.all false
set_option maxRecDepth 100000
set_option maxHeartbeats 4000000
set_option pp.maxSteps 900
namespace UP
open PySem PySem.Spec PyProof.Rows L2
theorem lastB_of {yi : List En} {y : En} : lastB (yi ++ [y]) = y.2 := by
  unfold lastB
  rw [List.length_append]
  show (enA (yi ++ [y]) (yi.length + 1 - 1)).2 = _
  rw [Nat.add_sub_cancel, enA_at (e := y) (by rw [List.getElem?_append_right (Nat.le_refl _), Nat.sub_self]; rfl)]
theorem bl_allF {α : Type} {f : α → Bool} : ∀ l : List α, ((l.map f).all id) = l.all f
  | [] => rfl
  | x :: t => by rw [List.map_cons, List.all_cons, List.all_cons, bl_allF t]; rfl
theorem nv_dec (a b : Nat) : decide (nvV a = nvV b) = decide (a = b) := decide_eq_decide.mpr ⟨fun h => by have := V.int.inj h; omega, fun h => by rw [h]⟩
theorem leaves_dec (c : Bool) : decide (V.str (actS c) = V.str "leaves") = !c := by
  show decide (V.str (actS c) = V.str (actS false)) = _
  rw [act_eq]
  cases c <;> rfl
theorem find_first {α : Type} {F : Nat → Option α} {n j : Nat} {c : α} (h0 : ∀ i < j, F i = none) (h : F j = some c) (hj : j < n) : (List.range n).findSome? F = some c := by
  have e : List.range n = List.range j ++ List.range' j (n - j) := by
    rw [List.range_eq_range', List.range_eq_range', show n = j + (n - j) by omega, ← List.range'_append_1]
    simp
  rw [e, List.findSome?_append]
  have e1 : (List.range j).findSome? F = none := List.findSome?_eq_none_iff.mpr fun i hi => h0 i (List.mem_range.mp hi)
  rw [e1]
  obtain ⟨m, hm⟩ : ∃ m, n - j = m + 1 := ⟨n - j - 1, by omega⟩
  rw [hm, List.range'_succ, List.findSome?_cons, h]
  rfl
theorem find_none {α : Type} {F : Nat → Option α} {n : Nat} (h0 : ∀ i < n, F i = none) : (List.range n).findSome? F = none := List.findSome?_eq_none_iff.mpr fun i hi => h0 i (List.mem_range.mp hi)
/-- the certain kind of an entry -/
def cerK (ks : List Str) (opt : List Str) (e : En) : Option Str := if e.1.isSome || decide (opt.length > 1) then e.1 else (match optL ks (opt.headD "") e with
  | [x] => some x
  | _ => none)
def cerE (ks : List Str) (es : List En) : List (Option Str) := (epsE es).flatMap fun ep => ep.map (cerK ks (optW ks ep))
section
variable {P : Program} {w : World} {K : PySem.W.Frag} {mg : Str → Option Value} {base : Heap}
/-! is_exhausted: slots 0:kinds 1:epoch 2:leaving 3:kind -/
abbrev s_is_exhausted : Stmt := topS 26
theorem sc_is_exhausted : FnScope ["kinds", "epoch", "leaving", "kind"] ["kinds", "epoch"] (defScope s_is_exhausted) := ⟨rfl, rfl, rfl, by decide +kernel, rfl, by decide +kernel, by decide +kernel⟩
def sp_is_exhausted : Sp := fun vs H Q _ => ∃ (a b : Addr) (ks : List Str) (ep : List En), vs = [.ref a, .ref b] ∧ Sq2 H a (ks.map V.str) ∧ ks.length ≤ 12 ∧ Rec H b ep ∧ ep ≠ [] ∧ (∀ e ∈ ep, EnOk e) ∧ ep.length ≤ 400 ∧ ∀ H', Same H H' → Q (.bl (exhE ks ep)) H'
theorem ok_is_exhausted (D : Df K mg "is_exhausted" s_is_exhausted) (T : Tx mg) (G_known_kinds : Has P w K mg base 1 "known_kinds" ["entries", "wanted"] sp_known_kinds) : Has P w K mg base 2 "is_exhausted" ["kinds", "epoch"] sp_is_exhausted := by
  refine has_of D sc_is_exhausted (fun _ _ _ _ _ _ us hl => match us, hl with | [_, _], _ => rfl) (fun vs H Q E h => ?_) (fun f cdv A outer s H vs Q E hr h => ?_)
  · obtain ⟨_, _, _, _, rfl, _⟩ := h
    rfl
  · obtain ⟨a, b, ks, ep, rfl, ha, l12, ⟨xs, hx, hp⟩, ne, ok, l4, q⟩ := h
    refine ⟨_, (pss_cons (ps_set (i := 2) sc_is_exhausted.nd rfl (by first | exact Or.inl rfl | exact Or.inr rfl) (pe_callH G_known_kinds (hr.mono (by omega)) (by rfl) (pa_cons (pv 1) (pa_cons pe_str pa_nil))))
    (pss_cons (ps_if (PW.pt (pw_and (pt_cmpR (op_eqD hr.units) (pe_callH G_known_kinds (hr.mono (by omega)) (by rfl) (pa_cons (pv 1) (pa_cons pe_str pa_nil))) (pe_lst pa_nil) (nomark _)) (pw_and1 (pt_val (pe_callB (cr_all rfl) (by rfl) T.n_all (by decide +kernel) (pa_cons (pe_lc (own := [("kind", 3)]) rfl sc_is_exhausted.nd (pi_seqV 0) (blkOk_by (N := ["kinds", "epoch", "leaving", "kind"]) (sc := defScope s_is_exhausted) (by decide +kernel)) (fun _ _ _ _ _ => (pg_name (i := 3) sc_is_exhausted.nd rfl (by first | exact Or.inl rfl | exact Or.inr rfl))) (fun _ _ _ _ _ => pts_nil) (fun _ _ _ _ _ => (pe_cmpR (op_in_seqK (K := K) rfl) (pv 3) (pv 2) (by with_unfolding_all rfl)))) pa_nil)))))) (pss_one (ps_ret pe_bl)) pss_nil)
    (pss_one (ps_ret (pe_and (pe_cmpR op_eq (pe_callB call_len_seq (by rfl) T.n_len (by decide +kernel) (pa_cons (pv 0) pa_nil)) pe_int (nomark _)) (pe_one (pe_cmpR op_eq (pe_ix ix_tup (pe_ix ix_list (pv 1) (pe_un un_neg pe_int) (fun _ _ => rfl)) pe_int (fun _ _ => rfl)) pe_str (nomark _)))))))), ?_⟩
    have okk : ∀ s ∈ knE ep true, KindOk s := fun s hs => by
      obtain ⟨e, he, h1⟩ := List.mem_filterMap.mp hs
      split at h1
      · exact ok e he s h1
      · cases h1
    refine ⟨_, rfl, b, ep, false, rfl, ⟨xs, hx, hp⟩, l4, fun H1 p1 s1 n1 h1 => ?_⟩
    dsimp only
    refine if_gen (fun σ' H' => σ' = [some (.ref a), some (.ref b), some (.ref p1), none] ∧ Same H H' ∧ ((knE ep true).isEmpty && ks.all fun k => decide (k ∈ knE ep false)) = false) (fun R k => ?_) (fun σ' H' hO => ?_)
    · refine ⟨_, rfl, b, ep, true, rfl, ⟨xs, s1 _ _ hx, Paired.imp (fun _ _ z => EnV.same s1 z) hp⟩, l4, fun H2 p2 s2 n2 h2 => ⟨Nat.zero_le _, fun e ne => ?_⟩⟩
      have se := same_upd (o := .lst []) ne
      refine ⟨.list ((knE ep true).map PyData.str), .list [], .lst (.of (se _ _ h2)) (dp_strl _), .lst (.of upd_same) .nil, shaped_strl okk, shaped_nil, _, rfl, ?_⟩
      rw [eqv_nilS]
      have h1 := se _ _ (s2 _ _ h1)
      have s3 := (s1.trans s2).trans se
      have ha3 := ha.same s3
      generalize upd H2 e (.lst []) = H3 at *
      have lk := kn_len ep false
      cases c1 : (knE ep true).isEmpty with
      | false => exact iteF (iteF (k _ _ ⟨rfl, s3, by rw [c1]; rfl⟩))
      | true =>
        refine iteT ⟨a, _, rfl, ha3, fun J wk L nL => lc_wk wk (fun i H' => Same H3 H' ∧ H' L = some (.lst (((ks.take i).map fun k => decide (k ∈ knE ep false)).map V.bl))) (fun _ _ p => p.1) ⟨same_upd nL, upd_same⟩ (fun i x H4 ex p => ?_) (fun H4 p => ?_)⟩
        · obtain ⟨sm, hL⟩ := p
          obtain ⟨kd, ek, rfl⟩ := str_at ex
          have hi : i < ks.length := (List.getElem?_eq_some_iff.mp ek).1
          refine ⟨rfl, yesT ⟨_, rfl, _, rfl, p1, _, rfl, .inl (.of (sm _ _ h1)), rfl, flat_strs _, ?_⟩⟩
          rw [if_neg (by decide), inV_strs]
          refine ⟨_, hL, ?_, same_grow nL sm, ?_⟩
          · simp only [List.length_map, List.length_take]
            exact small (by omega)
          · rw [upd_same, take_snoc ek, List.map_append, List.map_append]
            rfl
        · obtain ⟨sm, hL⟩ := p
          rw [List.length_map, List.take_length] at hL
          refine ⟨L, _, rfl, .of hL, ?_⟩
          rw [bl_allF]
          refine ⟨_, rfl, ?_⟩
          cases c2 : ks.all fun k => decide (k ∈ knE ep false) with
          | true =>
            refine iteT ?_
            have q := q _ (s3.trans sm)
            unfold exhE at q
            rw [c1, c2] at q
            exact q
          | false => exact iteF (k _ _ ⟨rfl, s3.trans sm, by rw [c2, Bool.and_false]⟩)
    · obtain ⟨rfl, sm, hA⟩ := hO
      unfold exhE at q
      rw [hA] at q
      refine ⟨_, rfl, a, _, rfl, (ha.same sm).twoE, rfl, _, rfl, ?_⟩
      have e1 : decide (V.int ((ks.map V.str).length : Nat) = V.int 1) = decide (ks.length = 1) := by
        rw [List.length_map]
        exact nv_dec ks.length 1
      rw [e1]
      cases c1 : decide (ks.length = 1) with
      | false =>
        rw [c1] at q
        exact iteF (q _ sm)
      | true =>
        rw [c1] at q
        have nex : xs ≠ [] := fun z => by rw [z] at hp; cases hp; exact ne rfl
        obtain ⟨xi, x, yi, y, rfl, rfl, _, t, rfl, ht⟩ := paired_last hp nex
        rw [lastB_of] at q
        refine iteT ⟨_, rfl, 1, rfl, b, _, -1, _, rfl, rfl, .of (sm _ _ hx), atI_last _ _, t, _, 1, _, rfl, rfl, .of (sm _ _ ht), rfl, rfl, ?_⟩
        rw [leaves_dec]
        exact q _ sm
/-! conflicts_at: slots 0:kinds 1:entries 2:first 3:last 4:exhausted -/
abbrev s_conflicts_at : Stmt := topS 27
theorem sc_conflicts_at : FnScope ["kinds", "entries", "first", "last", "exhausted"] ["kinds", "entries", "first", "last"] (defScope s_conflicts_at) := ⟨rfl, rfl, rfl, by decide +kernel, rfl, by decide +kernel, by decide +kernel⟩
def sp_conflicts_at : Sp := fun vs H Q _ => ∃ (a b : Addr) (ks : List Str) (es : List En) (f l : Nat), vs = [.ref a, .ref b, nvV f, nvV l] ∧ Sq2 H a (ks.map V.str) ∧ ks.length ≤ 12 ∧ Rec H b es ∧ (∀ e ∈ es, EnOk e) ∧ es.length ≤ 400 ∧ f ≤ l ∧ l < es.length ∧ ∀ H' p xs, Same H H' → H p = none → H' p = some (.lst xs) → Paired (CfV H') xs (cfsE ks es f l) → Q (.ref p) H'
theorem ok_conflicts_at (D : Df K mg "conflicts_at" s_conflicts_at) (T : Tx mg) (G_is_exhausted : Has P w K mg base 2 "is_exhausted" ["kinds", "epoch"] sp_is_exhausted) (G_conflicts_between : Has P w K mg base 1 "conflicts_between" ["entries", "first", "last"] sp_conflicts_between) : Has P w K mg base 3 "conflicts_at" ["kinds", "entries", "first", "last"] sp_conflicts_at := by
  refine has_of D sc_conflicts_at (fun _ _ _ _ _ _ us hl => match us, hl with | [_, _, _, _], _ => rfl) (fun vs H Q E h => ?_) (fun f cdv A outer s H vs Q E hr h => ?_)
  · obtain ⟨_, _, _, _, _, _, rfl, _⟩ := h
    rfl
  · obtain ⟨a, b, ks, es, fi, la, rfl, ha, l12, ⟨xs, hx, hp⟩, ok, l4, fl, ll, q⟩ := h
    refine ⟨_, (pss_cons (ps_if (PW.pt (pw_and (pt_cmpR op_eq (pv 2) (pv 3) (nomark _)) (pw_and1 (pt_cmpR op_eq (pe_ix ix_tup (pe_ix ix_list (pv 1) (pv 3) (fun _ _ => rfl)) pe_int (fun _ _ => rfl)) pe_str (nomark _))))) (pss_one (ps_ret (pe_lst (pa_cons (pe_tup (pa_cons pe_str (pa_cons (pv 3) pa_nil))) pa_nil)))) pss_nil)
    (C8.pss_cut (ps_set (i := 4) sc_conflicts_at.nd rfl (by first | exact Or.inl rfl | exact Or.inr rfl) (pe_ifExp (pt_val (pe_callH G_is_exhausted (hr.mono (by omega)) (by rfl) (pa_cons (pv 0) (pa_cons (pe_slice sl_list (pv 1) (po_some (pv 2)) (po_some (pe_op op_add (pv 3) pe_int))) pa_nil)))) (pe_lst (pa_cons (pe_tup (pa_cons pe_str (pa_cons (pv 2) (pa_cons (pv 3) pa_nil)))) pa_nil)) (pe_lst pa_nil)))
    (pss_one (ps_ret (pe_op op_cat (pe_callH G_conflicts_between (hr.mono (by omega)) (by rfl) (pa_cons (pv 1) (pa_cons (pv 2) (pa_cons (pv 3) pa_nil)))) (pv 4)))))), ?_⟩
    obtain ⟨t, et, ht⟩ := ent_at hp ll
    have lx := Paired.len hp
    refine if_gen (fun σ' H' => σ' = [some (.ref a), some (.ref b), some (nvV fi), some (nvV la), none] ∧ H = H' ∧ (decide (fi = la) && !(enA es la).2) = false) (fun R k => ?_) (fun σ' H' hO => ?_)
    · refine ⟨_, rfl, _, rfl, rfl, _, rfl, ?_⟩
      rw [nv_dec]
      cases c1 : decide (fi = la) with
      | false => exact iteF (iteF (k _ _ ⟨rfl, rfl, by rw [c1]; rfl⟩))
      | true =>
        refine iteT ⟨_, rfl, _, rfl, b, xs, (la : Int), _, rfl, rfl, .of hx, et, t, _, 1, _, rfl, rfl, .of ht, rfl, rfl, _, rfl, ?_⟩
        rw [leaves_dec]
        cases c2 : (!(enA es la).2) with
        | false => exact iteF (k _ _ ⟨rfl, rfl, by rw [c2, Bool.and_false]⟩)
        | true =>
          have ec : cfsE ks es fi la = [.lev la] := by
            unfold cfsE
            rw [c1, c2]
            rfl
          rw [ec] at q
          refine iteT ⟨_, rfl, (by show 2 ≤ sizeLine; decide), fun u nu => ⟨(by show 1 ≤ sizeLine; decide), fun p np => q _ p [.ref u] ((same_upd nu).trans (same_upd np)) ((same_upd nu).free np) upd_same (.cons ⟨u, rfl, same_upd np _ _ upd_same⟩ .nil)⟩⟩
    · obtain ⟨rfl, rfl, hA⟩ := hO
      have ec : cfsE ks es fi la = btwE es fi la ++ (if exhE ks (cutE es fi la) then [.thr "all" fi la] else []) := by
        unfold cfsE
        rw [hA]
        rfl
      rw [ec] at q
      refine ⟨fun σ' H' => ∃ x xs', σ' = [some (.ref a), some (.ref b), some (nvV fi), some (nvV la), some (.ref x)] ∧ Same H H' ∧ H' x = some (.lst xs') ∧ Paired (CfV H') xs' (if exhE ks (cutE es fi la) then [.thr "all" fi la] else []), ?_, fun σ' H' hM => ?_⟩
      · refine ⟨_, rfl, _, rfl, _, rfl, _, rfl, _, rfl, _, _, rfl, rfl, _, rfl, b, xs, rfl, .of hx, fun c nc => ?_⟩
        rw [show (la : Int) + 1 = ((la + 1 : Nat) : Int) by omega, cut_fl fl (by omega)]
        have sc := same_upd (o := .lst ((xs.drop fi).take (la + 1 - fi))) nc
        have hpc : Paired (EnV H) ((xs.drop fi).take (la + 1 - fi)) (cutE es fi la) := Paired.takep _ (Paired.dropp _ hp)
        have lc : (cutE es fi la).length = la + 1 - fi := by
          unfold cutE
          rw [List.length_take, List.length_drop]
          omega
        refine ⟨a, c, ks, cutE es fi la, rfl, ha.same sc, l12, ⟨_, upd_same, Paired.imp (fun _ _ z => EnV.same sc z) hpc⟩, (fun z => by rw [z] at lc; simp at lc; omega), (fun e he => ok e (List.mem_of_mem_drop (List.mem_of_mem_take he))), by omega, fun H1 s1 => ⟨_, rfl, ?_⟩⟩
        cases c1 : exhE ks (cutE es fi la) with
        | true => exact iteT ⟨_, rfl, _, rfl, (by show 3 ≤ sizeLine; decide), fun u nu => ⟨(by show 1 ≤ sizeLine; decide), fun p np => ⟨p, [.ref u], rfl, (sc.trans s1).trans ((same_upd nu).trans (same_upd np)), upd_same, .cons ⟨u, rfl, same_upd np _ _ upd_same⟩ .nil⟩⟩⟩
        | false => exact iteF ⟨Nat.zero_le _, fun p np => ⟨p, [], rfl, (sc.trans s1).trans (same_upd np), upd_same, .nil⟩⟩
      · obtain ⟨x, xs', rfl, sm, hx', hp'⟩ := hM
        have l1 : xs'.length ≤ 1 := by
          rw [Paired.len hp']
          split
          · exact Nat.le_refl _
          · exact Nat.zero_le _
        generalize (if exhE ks (cutE es fi la) then [Cf.thr "all" fi la] else []) = cs at *
        refine ⟨_, rfl, _, rfl, _, rfl, b, es, fi, la, rfl, ⟨xs, sm _ _ hx, Paired.imp (fun _ _ z => EnV.same sm z) hp⟩, l4, fl, ll, fun H2 p2 ys s2 n2 h2 hp2 => ?_⟩
        have ly : ys.length ≤ 1000 := by
          rw [Paired.len hp2]
          unfold btwE
          have := btw_len es fi la
          have h1 := List.length_filter_le (fun a => (decide ((enA es la).2 = (enA es a).2) && decide ((enA es a).2 = true)) && !decide ((enA es a).1 = (enA es la).1)) (othE es fi la)
          have h2 := List.length_filter_le (fun a => (!decide ((enA es la).2 = (enA es a).2)) && decide ((enA es a).1 = (enA es la).1)) (othE es fi la)
          rw [List.length_append, List.length_map, List.length_map]
          omega
        refine ⟨_, rfl, p2, x, _, _, rfl, rfl, h2, s2 _ _ hx', smallE (by omega), fun p np => q _ p _ ((sm.trans s2).trans (same_upd np)) ((sm.trans s2).free np) upd_same ?_⟩
        exact Paired.imp (fun _ _ z => CfV.same (same_upd np) z) (Paired.app hp2 (Paired.imp (fun _ _ z => CfV.same s2 z) hp'))
end
end UP

set_option Elab.async false
set_option linter.all false
set_option maxRecDepth 100000
set_option maxHeartbeats 4000000
set_option pp.maxSteps 400
namespace UP
open PySem PySem.Spec PyProof.Rows L2
section
variable {P : Program} {w : World} {K : PySem.W.Frag} {mg : Str → Option Value} {base : Heap}
/-! conflict_in: slots 0:kinds 1:entries 2:first 3:epoch 4:last 5:conflicts -/
abbrev s_conflict_in : Stmt := topS 28
theorem sc_conflict_in : FnScope ["kinds", "entries", "first", "epoch", "last", "conflicts"] ["kinds", "entries"] (defScope s_conflict_in) := ⟨rfl, rfl, rfl, by decide +kernel, rfl, by decide +kernel, by decide +kernel⟩
def sp_conflict_in : Sp := fun vs H Q _ => ∃ (a b : Addr) (ks : List Str) (es : List En), vs = [.ref a, .ref b] ∧ Sq2 H a (ks.map V.str) ∧ ks.length ≤ 12 ∧ Rec H b es ∧ (∀ e ∈ es, EnOk e) ∧ es.length ≤ 400 ∧ ∀ H' v, Same H H' → CfO H' v (cfE ks es) → Q v H'
theorem ok_conflict_in (D : Df K mg "conflict_in" s_conflict_in) (T : Tx mg) (G_epochs_of : Has P w K mg base 1 "epochs_of" ["entries"] sp_epochs_of) (G_conflicts_at : Has P w K mg base 3 "conflicts_at" ["kinds", "entries", "first", "last"] sp_conflicts_at) : Has P w K mg base 4 "conflict_in" ["kinds", "entries"] sp_conflict_in := by
  refine has_of D sc_conflict_in (fun _ _ _ _ _ _ us hl => match us, hl with | [_, _], _ => rfl) (fun vs H Q E h => ?_) (fun f cdv A outer s H vs Q E hr h => ?_)
  · obtain ⟨_, _, _, _, rfl, _⟩ := h
    rfl
  · obtain ⟨a, b, ks, es, rfl, ha, l12, hb, ok, l4, q⟩ := h
    refine ⟨_, (pss_cons (ps_set (i := 2) sc_conflict_in.nd rfl (by first | exact Or.inl rfl | exact Or.inr rfl) pe_int)
    (pss_cons (ps_for PassesOwn.never rfl (pi_list (pe_callH G_epochs_of (hr.mono (by omega)) (by rfl) (pa_cons (pv 1) pa_nil))) (pg_name (i := 3) sc_conflict_in.nd rfl (by first | exact Or.inl rfl | exact Or.inr rfl))
      (pss_cons (ps_for PassesOwn.never rfl (pi_range2 (by rfl) T.n_range (pa_cons (pv 2) (pa_cons (pe_op op_add (pv 2) (pe_callB call_len_seq (by rfl) T.n_len (by decide +kernel) (pa_cons (pv 3) pa_nil))) pa_nil))) (pg_name (i := 4) sc_conflict_in.nd rfl (by first | exact Or.inl rfl | exact Or.inr rfl))
      (pss_cons (ps_set (i := 5) sc_conflict_in.nd rfl (by first | exact Or.inl rfl | exact Or.inr rfl) (pe_callH G_conflicts_at (hr.mono (by omega)) (by rfl) (pa_cons (pv 0) (pa_cons (pv 1) (pa_cons (pv 2) (pa_cons (pv 4) pa_nil))))))
    (pss_one (ps_if (pt_truth (pv 5) (by intro _; rfl)) (pss_one (ps_ret (pe_ix ix_list (pv 5) pe_int (fun _ _ => rfl)))) pss_nil))))
    (pss_one (ps_aug (i := 2) sc_conflict_in.nd rfl (by first | exact Or.inl rfl | exact Or.inr rfl) (pe_callB call_len_seq (by rfl) T.n_len (by decide +kernel) (pa_cons (pv 3) pa_nil)) ip_add))))
    (pss_one (ps_ret pe_non)))), ?_⟩
    have p62 : ∀ n : Nat, n ≤ 1000 → (n : Int) < 2 ^ 62 := fun n h => by omega
    refine ⟨_, rfl, b, es, rfl, hb, l4, fun H2 p1 refs s2 np hp1 hrf nrf => ?_⟩
    have ha2 := ha.same s2
    have hb2 := hb.same s2
    have lrf := Paired.len hrf
    have efl : (epsE es).flatten = es := eps_join es
    refine ⟨p1, rfl, ⟨refs, .of hp1⟩, for_list (K := K) (a := p1) (xs := refs) (fun i σ H' => ∃ y3 y4 y5, σ = [some (.ref a), some (.ref b), some (nvV (((epsE es).take i).flatten.length)), y3, y4, y5] ∧ Same H2 H' ∧ cfE ks es = cfGo ks es (((epsE es).take i).flatten.length) ((epsE es).drop i)) ⟨none, none, none, rfl, Same.refl _, rfl⟩ (fun i σ H' _ hP => ?_) (fun i x σ H3 ex hP => ?_) (fun σ H3 hP => ?_)⟩
    · obtain ⟨_, _, _, _, b3, _⟩ := hP
      exact .of (b3 _ _ hp1)
    · obtain ⟨y3, y4, y5, rfl, sm, eg⟩ := hP
      obtain ⟨ep, eep, t, rfl, hrec⟩ := Paired.at hrf ex
      have mep : ep ∈ epsE es := List.mem_of_getElem? eep
      have ne := eps_ne ep mep
      have lsum : (((epsE es).take i).flatten).length + ep.length ≤ es.length := by
        have h1 := flat_take (L := epsE es) (i := i + 1)
        rw [take_snoc eep, efl, List.flatten_append, List.length_append, List.flatten_cons, List.flatten_nil, List.append_nil] at h1
        exact h1
      have edr : (epsE es).drop i = ep :: (epsE es).drop (i + 1) := by
        obtain ⟨hi, e⟩ := List.getElem?_eq_some_iff.mp eep
        rw [List.drop_eq_getElem_cons hi, e]
      have enx : (((epsE es).take (i + 1)).flatten).length = (((epsE es).take i).flatten).length + ep.length := by
        rw [take_snoc eep, List.flatten_append, List.length_append, List.flatten_cons, List.flatten_nil, List.append_nil]
      rw [edr, cfGo] at eg
      rw [enx]
      generalize (((epsE es).take i).flatten).length = fi at *
      have hrec3 := hrec.same sm
      obtain ⟨ts, ht3, hpt⟩ := hrec3
      have lts := Paired.len hpt
      refine ⟨_, rfl, _, rfl, _, rfl, t, _, rfl, .inl (.of ht3), _, _, rfl, rfl, (fi : Int), (fi : Int) + (ts.length : Int), rfl, ⟨by omega, p62 fi (by omega), by omega, by have := p62 (fi + ts.length) (by omega); omega⟩, for_range (lo := (fi : Int)) (n := ((fi : Int) + (ts.length : Int) - (fi : Int)).toNat) (fun j σ H' => ∃ y4 y5, σ = [some (.ref a), some (.ref b), some (nvV fi), some (.ref t), y4, y5] ∧ Same H2 H' ∧ ∀ j' < j, (cfsE ks es fi (fi + j')).head? = none) ⟨y4, y5, rfl, sm, (fun j' h => absurd h (Nat.not_lt_zero _))⟩ (fun j σ H4 hj hP => ?_) (fun σ H4 hP => ?_)⟩
      · obtain ⟨z4, z5, rfl, sm4, none4⟩ := hP
        have hj : j < ep.length := by omega
        rw [show (fi : Int) + (j : Int) = ((fi + j : Nat) : Int) by omega]
        refine ⟨_, rfl, _, rfl, _, rfl, _, rfl, a, b, ks, es, fi, fi + j, rfl, ha2.same sm4, l12, hb2.same sm4, ok, l4, by omega, by omega, fun H5 p5 xs5 s5 n5 h5 hp5 => ?_⟩
        refine ⟨_, rfl, _, .inl ⟨xs5, .of h5, rfl⟩, ?_⟩
        cases hc : cfsE ks es fi (fi + j) with
        | nil =>
          rw [hc] at hp5
          cases hp5
          refine iteF ⟨_, _, rfl, sm4.trans s5, fun j' hj' => ?_⟩
          rcases Nat.lt_succ_iff_lt_or_eq.mp hj' with z | z
          · exact none4 j' z
          · rw [z, hc]
            rfl
        | cons c cr =>
          rw [hc] at hp5
          cases hp5 with
          | @cons x _ xr _ hx _ =>
          refine iteT ⟨_, rfl, p5, _, 0, _, rfl, rfl, .of h5, atI_ofB (Int.le_refl _) rfl, q _ _ ((s2.trans sm4).trans s5) ?_⟩
          have e1 : cfEp ks es fi ep.length = some c := find_first none4 (by rw [hc]; rfl) hj
          rw [eg, e1]
          exact hx
      · obtain ⟨z4, z5, rfl, sm4, none4⟩ := hP
        have ht4 := (hrec.same sm4)
        obtain ⟨ts4, ht4, hpt4⟩ := ht4
        have lts4 := Paired.len hpt4
        refine ⟨_, rfl, _, rfl, t, _, rfl, .inl (.of ht4), _, _, rfl, rfl, some (.ref t), z4, z5, ?_, sm4, ?_⟩
        · rw [lts4]
          show _ = [_, _, some (V.int ((fi + ep.length : Nat) : Int)), _, _, _]
          rw [Int.natCast_add]
          rfl
        · have e1 : cfEp ks es fi ep.length = none := find_none fun j' hj' => none4 j' (by omega)
          rw [eg, e1]
          rfl
    · obtain ⟨y3, y4, y5, rfl, sm, eg⟩ := hP
      refine q _ _ (s2.trans sm) ?_
      rw [lrf, List.drop_length, cfGo] at eg
      rw [eg]
      rfl
/-! conflict_of: slots 0:kinds 1:record -/
abbrev s_conflict_of : Stmt := topS 30
theorem sc_conflict_of : FnScope ["kinds", "record"] ["kinds", "record"] (defScope s_conflict_of) := ⟨rfl, rfl, rfl, by decide +kernel, rfl, by decide +kernel, by decide +kernel⟩
def sp_conflict_of : Sp := fun vs H Q _ => ∃ (a : Addr) (v : V) (ks : List Str) (es : List En), vs = [.ref a, v] ∧ Sq2 H a (ks.map V.str) ∧ KsOk ks ∧ RecG H v es ∧ InK ks es ∧ es.length ≤ 400 ∧ ∀ H' v, Same H H' → CfO H' v (cfE ks es) → Q v H'
theorem ok_conflict_of (D : Df K mg "conflict_of" s_conflict_of) (G_checked_entries : Has P w K mg base 4 "checked_entries" ["kinds", "record"] sp_checked_entries) (G_conflict_in : Has P w K mg base 4 "conflict_in" ["kinds", "entries"] sp_conflict_in) : Has P w K mg base 5 "conflict_of" ["kinds", "record"] sp_conflict_of := by
  refine has_of D sc_conflict_of (fun _ _ _ _ _ _ us hl => match us, hl with | [_, _], _ => rfl) (fun vs H Q E h => ?_) (fun f cdv A outer s H vs Q E hr h => ?_)
  · obtain ⟨_, _, _, _, rfl, _⟩ := h
    rfl
  · obtain ⟨a, v, ks, es, rfl, ha, kso, hv, ink, l4, q⟩ := h
    refine ⟨_, (pss_one (ps_ret (pe_callH G_conflict_in (hr.mono (by omega)) (by rfl) (pa_cons (pv 0) (pa_cons (pe_callH G_checked_entries (hr.mono (by omega)) (by rfl) (pa_cons (pv 0) (pa_cons (pv 1) pa_nil))) pa_nil))))), ?_⟩
    have ok : ∀ e ∈ es, EnOk e := fun e he k hk => kso.2.2.1 k (ink e he k hk)
    exact ⟨_, rfl, _, rfl, _, rfl, a, v, ks, es, rfl, ha, kso, hv, ink, l4, fun H1 p1 s1 n1 h1 => ⟨a, p1, ks, es, rfl, ha.same s1, kso.2.1, h1, ok, l4, fun H2 v2 s2 h2 => q _ _ (s1.trans s2) h2⟩⟩
/-! certain_kind: slots 0:kinds 1:options 2:entry 3:choices 4:kind 5:action -/
abbrev s_certain_kind : Stmt := topS 29
theorem sc_certain_kind : FnScope ["kinds", "options", "entry", "choices", "kind", "action"] ["kinds", "options", "entry"] (defScope s_certain_kind) := ⟨rfl, rfl, rfl, by decide +kernel, rfl, by decide +kernel, by decide +kernel⟩
def sp_certain_kind : Sp := fun vs H Q _ => ∃ (a o : Addr) (v : V) (ks opt : List Str) (e : En), vs = [.ref a, .ref o, v] ∧ Sq2 H a (ks.map V.str) ∧ ks.length ≤ 12 ∧ H o = some (.lst (opt.map V.str)) ∧ opt ≠ [] ∧ EnV H v e ∧ ∀ H', Same H H' → Q (koV (cerK ks opt e)) H'
theorem ok_certain_kind (D : Df K mg "certain_kind" s_certain_kind) (T : Tx mg) (G_later_options : Has P w K mg base 1 "later_options" ["kinds", "entry", "waiting"] sp_later_options) : Has P w K mg base 2 "certain_kind" ["kinds", "options", "entry"] sp_certain_kind := by
  refine has_of D sc_certain_kind (fun _ _ _ _ _ _ us hl => match us, hl with | [_, _, _], _ => rfl) (fun vs H Q E h => ?_) (fun f cdv A outer s H vs Q E hr h => ?_)
  · obtain ⟨_, _, _, _, _, _, rfl, _⟩ := h
    rfl
  · obtain ⟨a, o, v, ks, opt, e, rfl, ha, l12, ho, ne, ⟨t, rfl, ht⟩, q⟩ := h
    refine ⟨_, (pss_cons (ps_asg (pv 2) (pg_tup rfl (pgs_cons (pg_name (i := 4) sc_certain_kind.nd rfl (by first | exact Or.inl rfl | exact Or.inr rfl)) (pgs_cons (pg_name (i := 5) sc_certain_kind.nd rfl (by first | exact Or.inl rfl | exact Or.inr rfl)) pgs_nil))))
    (pss_cons (ps_if (PW.pt (pw_or (pt_cmpR op_notN (pv 4) pe_non (nomark _)) (pw_or1 (pt_cmpR op_gt (pe_callB call_len_seq (by rfl) T.n_len (by decide +kernel) (pa_cons (pv 1) pa_nil)) pe_int (nomark _))))) (pss_one (ps_ret (pv 4))) pss_nil)
    (pss_cons (ps_set (i := 3) sc_certain_kind.nd rfl (by first | exact Or.inl rfl | exact Or.inr rfl) (pe_callH G_later_options (hr.mono (by omega)) (by rfl) (pa_cons (pv 0) (pa_cons (pv 2) (pa_cons (pe_ix ix_list (pv 1) pe_int (fun _ _ => rfl)) pa_nil)))))
    (pss_one (ps_ret (pe_ifExp (pt_cmpR op_eq (pe_callB call_len_seq (by rfl) T.n_len (by decide +kernel) (pa_cons (pv 3) pa_nil)) pe_int (nomark _)) (pe_ix ix_list (pv 3) pe_int (fun _ _ => rfl)) pe_non)))))), ?_⟩
    obtain ⟨o0, or, rfl⟩ : ∃ o0 or, opt = o0 :: or := by
      cases opt with
      | nil => exact absurd rfl ne
      | cons k r => exact ⟨k, r, rfl⟩
    refine ⟨_, rfl, t, _, rfl, .of ht, rfl, _, _, rfl, _, _, rfl, rfl, ?_⟩
    refine ⟨_, rfl, rfl, _, rfl, ?_⟩
    rw [ko_non]
    unfold cerK at q
    cases c1 : e.1.isSome with
    | true =>
      rw [c1] at q
      exact iteT (iteT ⟨_, rfl, q _ (Same.refl _)⟩)
    | false =>
      rw [c1] at q
      refine iteF ⟨_, rfl, o, _, rfl, .inl (.of ho), _, _, rfl, rfl, _, rfl, ?_⟩
      have e1 : decide ((1 : Int) < ((((o0 :: or).map V.str).length : Nat) : Int)) = decide ((o0 :: or).length > 1) := by
        rw [List.length_map]
        exact decide_eq_decide.mpr ⟨fun z => by omega, fun z => by omega⟩
      rw [e1]
      cases c2 : decide ((o0 :: or).length > 1) with
      | true =>
        rw [c2] at q
        exact iteT ⟨_, rfl, q _ (Same.refl _)⟩
      | false =>
        rw [c2] at q
        refine iteF ⟨_, rfl, _, rfl, _, rfl, o, _, 0, _, rfl, rfl, .of ho, atI_ofB (Int.le_refl _) rfl, a, .ref t, ks, e, o0, rfl, ha, l12, ⟨t, rfl, ht⟩, fun H1 p1 s1 n1 h1 => ?_⟩
        have q : ∀ H', Same H H' → Q (koV (match optL ks o0 e with
          | [x] => some x
          | _ => none)) H' := q
        refine ⟨_, rfl, p1, _, rfl, .inl (.of h1), rfl, _, rfl, ?_⟩
        have e2 : decide (V.int (((optL ks o0 e).map V.str).length : Nat) = V.int 1) = decide ((optL ks o0 e).length = 1) := by
          rw [List.length_map]
          exact nv_dec _ 1
        rw [e2]
        generalize optL ks o0 e = L at *
        match L, h1, q with
        | [], h1, q => exact iteF (q _ s1)
        | [x], h1, q => exact iteT ⟨_, rfl, p1, _, 0, _, rfl, rfl, .of h1, atI_ofB (Int.le_refl _) rfl, q _ s1⟩
        | x :: y :: r, h1, q => exact iteN (decide_eq_false (by simp)) (q _ s1)
/-! certain_kinds: slots 0:kinds 1:record 2:entries 3:conflict 4:certain 5:epoch 6:options 7:entry -/
abbrev s_certain_kinds : Stmt := topS 32
theorem sc_certain_kinds : FnScope ["kinds", "record", "entries", "conflict", "certain", "epoch", "options", "entry"] ["kinds", "record"] (defScope s_certain_kinds) := ⟨rfl, rfl, rfl, by decide +kernel, rfl, by decide +kernel, by decide +kernel⟩
def sp_certain_kinds : Sp := fun vs H Q _ => ∃ (a : Addr) (v : V) (ks : List Str) (es : List En), vs = [.ref a, v] ∧ Sq2 H a (ks.map V.str) ∧ KsOk ks ∧ RecG H v es ∧ InK ks es ∧ es.length ≤ 400 ∧ cfE ks es = none ∧ (∀ ep ∈ epsE es, optW ks ep ≠ []) ∧ ∀ H' p, Same H H' → H p = none → H' p = some (.lst ((cerE ks es).map koV)) → Q (.ref p) H'
theorem cer_len (ks : List Str) : ∀ L : List (List En), (L.flatMap fun ep => ep.map (cerK ks (optW ks ep))).length = L.flatten.length
  | [] => rfl
  | ep :: r => by rw [List.flatMap_cons, List.flatten_cons, List.length_append, List.length_append, List.length_map, cer_len ks r]
theorem ok_certain_kinds (D : Df K mg "certain_kinds" s_certain_kinds) (T : Tx mg) (G_checked_entries : Has P w K mg base 4 "checked_entries" ["kinds", "record"] sp_checked_entries) (G_conflict_in : Has P w K mg base 4 "conflict_in" ["kinds", "entries"] sp_conflict_in) (G_epochs_of : Has P w K mg base 1 "epochs_of" ["entries"] sp_epochs_of) (G_waiting_options : Has P w K mg base 2 "waiting_options" ["kinds", "epoch"] sp_waiting_options) (G_certain_kind : Has P w K mg base 2 "certain_kind" ["kinds", "options", "entry"] sp_certain_kind) : Has P w K mg base 5 "certain_kinds" ["kinds", "record"] sp_certain_kinds := by
  refine has_of D sc_certain_kinds (fun _ _ _ _ _ _ us hl => match us, hl with | [_, _], _ => rfl) (fun vs H Q E h => ?_) (fun f cdv A outer s H vs Q E hr h => ?_)
  · obtain ⟨_, _, _, _, rfl, _⟩ := h
    rfl
  · obtain ⟨a, v, ks, es, rfl, ha, kso, hv, ink, l4, nocf, nopt, q⟩ := h
    refine ⟨_, (pss_cons (ps_set (i := 2) sc_certain_kinds.nd rfl (by first | exact Or.inl rfl | exact Or.inr rfl) (pe_callH G_checked_entries (hr.mono (by omega)) (by rfl) (pa_cons (pv 0) (pa_cons (pv 1) pa_nil))))
    (pss_cons (ps_set (i := 3) sc_certain_kinds.nd rfl (by first | exact Or.inl rfl | exact Or.inr rfl) (pe_callH G_conflict_in (hr.mono (by omega)) (by rfl) (pa_cons (pv 0) (pa_cons (pv 2) pa_nil))))
    (pss_cons (ps_if (pt_cmpR op_notN (pv 3) pe_non (nomark _)) (pss_one ps_never) pss_nil)
    (pss_cons (ps_set (i := 4) sc_certain_kinds.nd rfl (by first | exact Or.inl rfl | exact Or.inr rfl) (pe_lst pa_nil))
    (pss_cons (ps_for PassesOwn.never rfl (pi_list (pe_callH G_epochs_of (hr.mono (by omega)) (by rfl) (pa_cons (pv 2) pa_nil))) (pg_name (i := 5) sc_certain_kinds.nd rfl (by first | exact Or.inl rfl | exact Or.inr rfl))
      (pss_cons (ps_set (i := 6) sc_certain_kinds.nd rfl (by first | exact Or.inl rfl | exact Or.inr rfl) (pe_callH G_waiting_options (hr.mono (by omega)) (by rfl) (pa_cons (pv 0) (pa_cons (pv 5) pa_nil))))
    (pss_one (ps_expr (pe_bm PySem.F.plainAttrs_list PySem.F.slot_list_extend PySem.F.type_list_extend mt_extend (pv 4) (pa_cons (pe_lc (own := [("entry", 7)]) rfl sc_certain_kinds.nd (pi_list (pv 5)) (blkOk_by (N := ["kinds", "record", "entries", "conflict", "certain", "epoch", "options", "entry"]) (sc := defScope s_certain_kinds) (by decide +kernel)) (fun _ _ _ _ _ => (pg_name (i := 7) sc_certain_kinds.nd rfl (by first | exact Or.inl rfl | exact Or.inr rfl))) (fun _ _ _ _ _ => pts_nil) (fun _ _ _ _ _ => (pe_callH G_certain_kind (hr.mono (by omega)) (by rfl) (pa_cons (pv 0) (pa_cons (pv 6) (pa_cons (pv 7) pa_nil)))))) pa_nil))))))
    (pss_one (ps_ret (pv 4)))))))), ?_⟩
    have ok : ∀ e ∈ es, EnOk e := fun e he k hk => kso.2.2.1 k (ink e he k hk)
    refine ⟨_, rfl, _, rfl, a, v, ks, es, rfl, ha, kso, hv, ink, l4, fun H1 p1 s1 n1 h1 => ?_⟩
    refine ⟨_, rfl, _, rfl, a, p1, ks, es, rfl, ha.same s1, kso.2.1, h1, ok, l4, fun H2 v2 s2 h2 => ?_⟩
    rw [nocf] at h2
    cases (show v2 = .non from h2)
    refine ⟨_, rfl, rfl, _, rfl, iteN yes_non ?_⟩
    have s12 := s1.trans s2
    have hb2 := h1.same s2
    have ha2 := ha.same s12
    refine ⟨Nat.zero_le _, fun N0 nN => ?_⟩
    have aN := sq_ne ha2 nN
    have sN := same_upd (o := .lst []) nN
    have hN1 : (upd H2 N0 (.lst [])) N0 = some (.lst []) := upd_same
    refine ⟨_, rfl, p1, es, rfl, hb2.same sN, l4, fun H4 p4 refs s4 np hp4 hrf nrf => ?_⟩
    have p4N : p4 ≠ N0 := fun z => by rw [z, hN1] at np; cases np
    have rfN : ∀ t, V.ref t ∈ refs → t ≠ N0 := fun t ht z => by have := nrf t ht; rw [z, hN1] at this; cases this
    have hN4 := s4 _ _ hN1
    have ha4 := (ha2.same sN).same s4
    have sH4 : Same H2 H4 := sN.trans s4
    have lrf := Paired.len hrf
    refine ⟨p4, rfl, ⟨refs, .of hp4⟩, for_list (K := K) (a := p4) (xs := refs) (fun i σ H' => ∃ y5 y6, σ = [some (.ref a), some v, some (.ref p1), some .non, some (.ref N0), y5, y6, none] ∧ But N0 H4 H' ∧ H' N0 = some (.lst ((((epsE es).take i).flatMap fun ep => ep.map (cerK ks (optW ks ep))).map koV))) ⟨none, none, rfl, But.refl, hN4⟩ (fun i σ H' _ hP => ?_) (fun i x σ H5 ex hP => ?_) (fun σ H5 hP => ?_)⟩
    · obtain ⟨_, _, _, b3, _⟩ := hP
      exact .of (b3 _ _ p4N hp4)
    · obtain ⟨y5, y6, rfl, b5, hN5⟩ := hP
      obtain ⟨ep, eep, t, rfl, hrec⟩ := Paired.at hrf ex
      have mep : ep ∈ epsE es := List.mem_of_getElem? eep
      have ne := eps_ne ep mep
      have lep : ep.length ≤ 400 := Nat.le_trans (ep_len mep) l4
      have tN := rfN t (List.mem_of_getElem? ex)
      have hrec5 := hrec.but hN4 tN b5
      have ha5 := sq_but aN b5 ha4
      have lns : (((epsE es).take i).flatMap fun ep => ep.map (cerK ks (optW ks ep))).length ≤ 400 := by
        rw [cer_len]
        have := flat_take (L := epsE es) (i := i)
        rw [eps_join] at this
        omega
      have nop := nopt ep mep
      rw [take_snoc eep, List.flatMap_append, List.flatMap_cons, List.flatMap_nil, List.append_nil]
      generalize ((epsE es).take i).flatMap (fun ep => ep.map (cerK ks (optW ks ep))) = ns at *
      refine ⟨_, rfl, _, rfl, a, t, ks, ep, rfl, ha5, kso.2.1, hrec5, ne, lep, fun H6 p6 s6 n6 h6 => ?_⟩
      obtain ⟨xs, hx, hp⟩ := hrec5.same s6
      have ha6 := ha5.same s6
      have hN6 := s6 _ _ hN5
      have lx := Paired.len hp
      refine ⟨_, rfl, .inl ⟨rfl, _, SqL.of hN6⟩, _, rfl, t, rfl, ⟨xs, .of hx⟩, fun L nL => lc_list (K := K) (a := t) (xs := xs) (fun j H' => Same H6 H' ∧ H' L = some (.lst (((ep.take j).map (cerK ks (optW ks ep))).map koV))) ⟨same_upd nL, upd_same⟩ (fun j H' _ p => .of (p.1 _ _ hx)) (fun j x H7 ex p => ?_) (fun H7 p => ?_)⟩
      · obtain ⟨sm, hL⟩ := p
        obtain ⟨e, ee, he⟩ := Paired.at hp ex
        have hj : j < xs.length := (List.getElem?_eq_some_iff.mp ex).1
        refine ⟨rfl, yesT ⟨_, rfl, _, rfl, _, rfl, a, p6, x, ks, optW ks ep, e, rfl, ha6.same sm, kso.2.1, sm _ _ h6, nop, he.same sm, fun H8 s8 => ⟨_, s8 _ _ hL, ?_, same_grow nL (sm.trans s8), ?_⟩⟩⟩
        · simp only [List.length_map, List.length_take]
          exact small (by omega)
        · rw [upd_same, take_snoc ee, List.map_append, List.map_append]
          rfl
      · obtain ⟨sm, hL⟩ := p
        rw [lx, List.take_length] at hL
        refine ⟨N0, L, _, _, rfl, rfl, sm _ _ hN6, hL, ?_, _, _, rfl, ?_, ?_⟩
        · simp only [List.length_map]
          exact smallE (by omega)
        · exact b5.trans ((Same.but (s6.trans sm)).trans but_upd)
        · rw [upd_same, ← List.map_append]
    · obtain ⟨y5, y6, rfl, b5, hN5⟩ := hP
      rw [lrf, List.take_length] at hN5
      exact ⟨_, rfl, q _ _ (fun c o e => b5 _ _ (ne_of_none e (s12.free nN)) (sH4 _ _ (s12 _ _ e))) (s12.free nN) hN5⟩
end
end UP

set_option Elab.async false
set_option linter.all false
set_option maxRecDepth 100000
set_option maxHeartbeats 4000000
set_option pp.maxSteps 400
namespace UP
open PySem PySem.Spec PyProof.Rows L2
/-! ### what items do, and the records that they fit -/
def staysI (w : Str) (c : Nat) (k : Str) : Bool := decide (c = 0) || decide (k = w)
def nxtW (w : Str) (c : Nat) (k : Str) : Str := if staysI w c k = true then k else w
def nxtC (w : Str) (c : Nat) (k : Str) : Nat := if staysI w c k = true then c + 1 else c - 1
def actI : Str → Nat → List Str → List Bool
  | _, _, [] => []
  | w, c, k :: t => staysI w c k :: actI (nxtW w c k) (nxtC w c k) t
theorem actI_len : ∀ (its : List Str) (w : Str) (c : Nat), (actI w c its).length = its.length
  | [], _, _ => rfl
  | k :: t, w, c => congrArg (· + 1) (actI_len t _ _)
/-- an entry says nothing wrong of an item -/
def KnE (e : En) (k : Str) : Prop := ∀ x, e.1 = some x → x = k
def FitE : Str → Nat → List En → List Str → Prop
  | _, _, [], [] => True
  | w, c, e :: es, k :: t => e.2 = staysI w c k ∧ KnE e k ∧ FitE (nxtW w c k) (nxtC w c k) es t
  | _, _, _, _ => False
theorem FitE.len : ∀ {es : List En} {its : List Str} {w : Str} {c : Nat}, FitE w c es its → its.length = es.length
  | [], [], _, _, _ => rfl
  | e :: es, k :: t, _, _, h => congrArg (· + 1) (FitE.len h.2.2)
  | [], _ :: _, _, _, h => h.elim
  | _ :: _, [], _, _, h => h.elim
/-- an epoch and its items, w waits -/
def EpB (w : Str) (ep : List En) (its : List Str) : Prop := Paired (fun e k => e.2 = decide (k = w) ∧ KnE e k) ep its
inductive EpsF : List (List En) → List Str → Prop
  | nil : EpsF [] []
  | cons {w : Str} {ep : List En} {t rest : List Str} {r : List (List En)} (h : EpB w ep (w :: t)) (p : EpsF r rest) : EpsF (ep :: r) ((w :: t) ++ rest)
theorem spl_fit : ∀ {es : List En} {its : List Str} {w : Str} {c : Nat}, FitE w c es its → ∃ cit rest, its = cit ++ rest ∧ EpB w (splE c es).1 cit ∧ EpsF (splE c es).2 rest
  | [], [], w, c, _ => ⟨[], [], rfl, .nil, .nil⟩
  | e :: es, k :: t, w, c, h => by
    obtain ⟨h1, h2, h3⟩ := h
    obtain ⟨cit, rest, rfl, hb, hr⟩ := spl_fit h3
    have en : nxtE c e = nxtC w c k := by
      unfold nxtE nxtC
      rw [h1]
    rw [splE, en]
    by_cases c0 : c = 0
    · subst c0
      have st : staysI w 0 k = true := rfl
      have ew : nxtW w 0 k = k := by unfold nxtW; rw [if_pos st]
      rw [ew] at hb
      rw [if_pos rfl]
      refine ⟨[], k :: (cit ++ rest), rfl, .nil, ?_⟩
      rw [← List.cons_append]
      refine .cons (.cons ⟨?_, h2⟩ hb) hr
      rw [h1, st, decide_eq_true rfl]
    · have st : staysI w c k = decide (k = w) := by unfold staysI; rw [decide_eq_false c0, Bool.false_or]
      have ew : nxtW w c k = w := by
        unfold nxtW
        split
        · next hs =>
          rw [st] at hs
          exact of_decide_eq_true hs
        · rfl
      rw [ew] at hb
      rw [if_neg c0]
      exact ⟨k :: cit, rest, rfl, .cons ⟨by rw [h1, st], h2⟩ hb, hr⟩
  | [], _ :: _, _, _, h => h.elim
  | _ :: _, [], _, _, h => h.elim
theorem eps_fit {es : List En} {its : List Str} (h : FitE "" 0 es its) : EpsF (epsE es) its := by
  obtain ⟨cit, rest, rfl, hb, hr⟩ := spl_fit h
  rw [spl_zero] at hb
  cases hb
  exact hr
theorem EpB.len {w : Str} {ep : List En} {its : List Str} (h : EpB w ep its) : its.length = ep.length := (Paired.len h).symm
theorem EpsF.len {L : List (List En)} {its : List Str} (h : EpsF L its) : its.length = L.flatten.length := by
  induction h with
  | nil => rfl
  | cons h _ ih =>
    rw [List.length_append, List.flatten_cons, List.length_append, ih, h.len]
/-! ### the kinds that are known -/
theorem kn_true {w : Str} {ep : List En} {its : List Str} (h : EpB w ep its) : ∀ x ∈ knE ep true, x = w := by
  intro x hx
  obtain ⟨e, he, h1⟩ := List.mem_filterMap.mp hx
  split at h1
  · next c =>
    obtain ⟨j, ej⟩ := List.getElem?_of_mem he
    obtain ⟨k, _, h2, h3⟩ := Paired.at h ej
    rw [c] at h2
    rw [h3 x h1]
    exact of_decide_eq_true h2.symm
  · cases h1
theorem kn_false {w : Str} {ep : List En} {its : List Str} (h : EpB w ep its) : ∀ x ∈ knE ep false, x ≠ w := by
  intro x hx
  obtain ⟨e, he, h1⟩ := List.mem_filterMap.mp hx
  split at h1
  · next c =>
    obtain ⟨j, ej⟩ := List.getElem?_of_mem he
    obtain ⟨k, _, h2, h3⟩ := Paired.at h ej
    rw [c] at h2
    rw [h3 x h1]
    exact of_decide_eq_false h2.symm
  · cases h1
theorem w_opt {ks : List Str} {w : Str} {ep : List En} {t : List Str} (h : EpB w ep (w :: t)) (hw : w ∈ ks) : w ∈ optW ks ep := by
  cases h with
  | @cons e _ er _ h1 h2 =>
  have hb : EpB w (e :: er) (w :: t) := .cons h1 h2
  rw [optW_eq, if_pos (by rw [h1.1]; exact decide_eq_true rfl)]
  refine List.mem_filter.mpr ⟨hw, ?_⟩
  unfold pW
  rw [decide_eq_false (fun z => kn_false hb w z rfl)]
  show ((knE (e :: er) true).all fun x => decide (w = x)) = true
  exact List.all_eq_true.mpr fun x hx => decide_eq_true (kn_true hb x hx).symm
theorem opt_item {ks : List Str} {w k : Str} {e : En} (h1 : e.2 = decide (k = w)) (h2 : KnE e k) (hk : k ∈ ks) : k ∈ optL ks w e := by
  unfold optL
  by_cases c : k = w
  · rw [if_pos (by rw [h1]; exact decide_eq_true c), c]
    exact List.mem_cons_self ..
  · rw [if_neg (by rw [h1, decide_eq_false c]; decide)]
    cases e1 : e.1 with
    | none => exact List.mem_filter.mpr ⟨hk, by rw [decide_eq_false c]; rfl⟩
    | some x =>
      rw [h2 x e1]
      exact List.mem_cons_self ..
theorem opts_ne {ks : List Str} {L : List (List En)} {its : List Str} (h : EpsF L its) : (∀ x ∈ its, x ∈ ks) → ∀ ep ∈ L, optW ks ep ≠ [] := by
  induction h with
  | nil => intro _ ep h; cases h
  | @cons w ep t rest r h _ ih =>
    intro hin ep' he
    rcases List.mem_cons.mp he with e | e
    · rw [e]
      exact List.ne_nil_of_mem (w_opt h (hin w (List.mem_append.mpr (.inl (List.mem_cons_self ..)))))
    · exact ih (fun x hx => hin x (List.mem_append.mpr (.inr hx))) ep' e
theorem zip_opt {ks : List Str} {w : Str} {ep : List En} {its : List Str} (h : EpB w ep its) (hin : ∀ x ∈ its, x ∈ ks) : ∀ p ∈ its.zip (ep.map (optL ks w)), p.1 ∈ p.2 := by
  induction h with
  | nil => intro p hp; cases hp
  | @cons e k er t h1 _ ih =>
    intro p hp
    rcases List.mem_cons.mp hp with z | z
    · rw [z]
      exact opt_item h1.1 h1.2 (hin k (List.mem_cons_self ..))
    · exact ih (fun x hx => hin x (List.mem_cons_of_mem _ hx)) p z
theorem fit_zip {ks : List Str} {L : List (List En)} {its : List Str} (h : EpsF L its) : (∀ x ∈ its, x ∈ ks) → ∀ p ∈ its.zip (optE ks L its), p.1 ∈ p.2 := by
  induction h with
  | nil => intro _ p hp; cases hp
  | @cons w ep t rest r h _ ih =>
    intro hin p hp
    have l1 := h.len
    have ne : ep ≠ [] := fun z => by rw [z] at l1; cases l1
    have e1 : ((w :: t) ++ rest).drop ep.length = rest := by rw [← l1, List.drop_left]
    have e2 : ((w :: t) ++ rest).headD "" = w := rfl
    rw [optE, e1, e2, List.zip_append (by rw [optP_len ne, l1])] at hp
    rcases List.mem_append.mp hp with z | z
    · unfold optP at z
      cases h with
      | @cons e _ er _ h1 h2 =>
      rcases List.mem_cons.mp z with q | q
      · rw [q]
        exact w_opt (.cons h1 h2) (hin w (List.mem_append.mpr (.inl (List.mem_cons_self ..))))
      · exact zip_opt h2 (fun x hx => hin x (List.mem_append.mpr (.inl (List.mem_cons_of_mem _ hx)))) p q
    · exact ih (fun x hx => hin x (List.mem_append.mpr (.inr hx))) p z
theorem fitI_of {ks : List Str} {es : List En} {its : List Str} (h : FitE "" 0 es its) (hin : ∀ x ∈ its, x ∈ ks) (kso : KsOk ks) : FitI ks es its :=
  ⟨h.len, fun x hx => kso.2.2.1 x (hin x hx), fit_zip (eps_fit h) hin⟩
theorem inK_of : ∀ {es : List En} {its : List Str} {w : Str} {c : Nat} {ks : List Str}, FitE w c es its → (∀ x ∈ its, x ∈ ks) → InK ks es
  | [], [], _, _, _, _, _ => fun e h => by cases h
  | e :: es, k :: t, _, _, ks, h, hin => fun e' he x hx => by
    rcases List.mem_cons.mp he with z | z
    · rw [z] at hx
      rw [h.2.1 x hx]
      exact hin k (List.mem_cons_self ..)
    · exact inK_of h.2.2 (fun x hx => hin x (List.mem_cons_of_mem _ hx)) e' z x hx
  | [], _ :: _, _, _, _, h, _ => h.elim
  | _ :: _, [], _, _, _, h, _ => h.elim
/-! ### no conflict -/
theorem cfGo_none {ks : List Str} {es : List En} : ∀ {L : List (List En)} {its : List Str} {f : Nat}, EpsF L its → (∀ x ∈ its, x ∈ ks) → (es.drop f) = L.flatten → cfGo ks es f L = none := by
  intro L its f h
  induction h generalizing f with
  | nil => intro _ _; rfl
  | @cons w ep t rest r h _ ih =>
    intro hin hd
    rw [cfGo]
    have dr : es.drop (f + ep.length) = r.flatten := by
      rw [← List.drop_drop, hd, List.flatten_cons, List.drop_left]
    rw [ih (fun x hx => hin x (List.mem_append.mpr (.inr hx))) dr, Option.or_none]
    refine find_none fun j hj => ?_
    have at_ : ∀ a, a < ep.length → ∃ e k, ep[a]? = some e ∧ (w :: t)[a]? = some k ∧ enA es (f + a) = e ∧ e.2 = decide (k = w) ∧ KnE e k := fun a ha => by
      have h1 := List.getElem?_eq_getElem ha
      obtain ⟨k, hk, h2, h3⟩ := Paired.at h h1
      refine ⟨ep[a], k, h1, hk, enA_at ?_, h2, h3⟩
      rw [← List.getElem?_drop, hd, List.flatten_cons, List.getElem?_append_left ha]
      exact h1
    obtain ⟨el, kl, e1, e2, e3, e4, e5⟩ := at_ j hj
    have ins : ∀ k ∈ w :: t, k ∈ ks := fun k hk => hin k (List.mem_append.mpr (.inl hk))
    have hw : w ∈ ks := ins w (List.mem_cons_self ..)
    have b1 : btwE es f (f + j) = [] := by
      have ab : ∀ a ∈ othE es f (f + j), ∃ a', a = f + a' ∧ a' < ep.length ∧ (enA es (f + j)).1.isSome = true ∧ (enA es a).1.isSome = true := fun a ha => by
        unfold othE at ha
        obtain ⟨h1, h2⟩ := List.mem_filter.mp ha
        obtain ⟨i, hi, rfl⟩ := List.mem_range'.mp h1
        rw [Bool.and_eq_true] at h2
        exact ⟨1 * i, rfl, by omega, h2.1, h2.2⟩
      unfold btwE
      rw [List.filter_eq_nil_iff.mpr, List.filter_eq_nil_iff.mpr]
      · rfl
      · intro a ha hc
        obtain ⟨a', rfl, la, s1, s2⟩ := ab a ha
        obtain ⟨ea, ka, f1, f2, f3, f4, f5⟩ := at_ a' la
        rw [e3, f3, Bool.and_eq_true] at hc
        rw [e3] at s1
        rw [f3] at s2
        obtain ⟨x, hx⟩ := Option.isSome_iff_exists.mp s1
        have hsame := of_decide_eq_true hc.2
        have k1 := e5 x hx
        have k2 := f5 x (by rw [hsame]; exact hx)
        have hne : ¬ (el.2 = ea.2) := fun z => by
          have := hc.1
          rw [decide_eq_true z] at this
          cases this
        exact hne (by rw [e4, f4, ← k1, ← k2])
      · intro a ha hc
        obtain ⟨a', rfl, la, s1, s2⟩ := ab a ha
        obtain ⟨ea, ka, f1, f2, f3, f4, f5⟩ := at_ a' la
        rw [e3, f3, Bool.and_eq_true, Bool.and_eq_true] at hc
        rw [e3] at s1
        rw [f3] at s2
        obtain ⟨x, hx⟩ := Option.isSome_iff_exists.mp s1
        obtain ⟨y, hy⟩ := Option.isSome_iff_exists.mp s2
        have g1 := of_decide_eq_true hc.1.1
        have g2 := of_decide_eq_true hc.1.2
        rw [f4] at g2
        rw [e4, f4, g2] at g1
        have k1 := of_decide_eq_true g1
        have k2 := of_decide_eq_true g2
        have : ea.1 = el.1 := by rw [hx, hy, e5 x hx, f5 y hy, k1, k2]
        rw [decide_eq_true this] at hc
        cases hc.2
    have cu : cutE es f (f + j) = ep.take (j + 1) := by
      unfold cutE
      rw [hd, List.flatten_cons, show f + j + 1 - f = j + 1 by omega, List.take_append_of_le_length (by omega)]
    have hbt : EpB w (ep.take (j + 1)) ((w :: t).take (j + 1)) := Paired.takep _ h
    have b2 : exhE ks (cutE es f (f + j)) = false := by
      rw [cu]
      unfold exhE
      have a1 : (ks.all fun k => decide (k ∈ knE (ep.take (j + 1)) false)) = false := by
        rw [List.all_eq_false]
        exact ⟨w, hw, by rw [decide_eq_false (fun z => kn_false hbt w z rfl)]; decide⟩
      rw [a1, Bool.and_false, Bool.false_or, Bool.and_eq_false_iff]
      by_cases c1 : ks.length = 1
      · right
        have el2 : lastB (ep.take (j + 1)) = el.2 := by
          rw [List.take_succ_eq_append_getElem hj, lastB_of]
          rw [List.getElem?_eq_getElem hj] at e1
          rw [Option.some.inj e1]
        have hkl := ins kl (List.mem_of_getElem? e2)
        have : kl = w := by
          match ks, c1, hkl, hw with
          | [z], _, hkl, hw => rw [List.mem_singleton.mp hkl, List.mem_singleton.mp hw]
        rw [el2, e4, decide_eq_true this]
        rfl
      · left
        exact decide_eq_false c1
    unfold cfsE
    rw [b1, b2]
    by_cases c : j = 0
    · subst c
      have k0 : kl = w := (Option.some.inj e2).symm
      rw [show enA es (f + 0) = el from e3, e4, decide_eq_true k0, Bool.not_true, Bool.and_false]
      rfl
    · rw [decide_eq_false (show ¬ f = f + j by omega), Bool.false_and]
      rfl
theorem cf_none {ks : List Str} {es : List En} {its : List Str} (h : FitE "" 0 es its) (hin : ∀ x ∈ its, x ∈ ks) : cfE ks es = none :=
  cfGo_none (eps_fit h) hin (by rw [List.drop_zero, eps_join])
end UP

set_option Elab.async false
set_option linter.all false
set_option maxRecDepth 100000
set_option maxHeartbeats 4000000
set_option pp.maxSteps 400
namespace UP
open PySem PySem.Spec PyProof.Rows L2
/-! ### records with all kinds known -/
def recI : Str → Nat → List Str → List En
  | _, _, [] => []
  | w, c, k :: t => (some k, staysI w c k) :: recI (nxtW w c k) (nxtC w c k) t
theorem recI_fit : ∀ (its : List Str) (w : Str) (c : Nat), FitE w c (recI w c its) its
  | [], _, _ => True.intro
  | k :: t, w, c => ⟨rfl, (fun x h => by cases h; rfl), recI_fit t _ _⟩
theorem recI_kind : ∀ (its : List Str) (w : Str) (c : Nat), (recI w c its).map (·.1) = its.map some
  | [], _, _ => rfl
  | k :: t, w, c => by
    show some k :: (recI (nxtW w c k) (nxtC w c k) t).map (·.1) = _
    rw [recI_kind t]
    rfl
theorem recI_act : ∀ (its : List Str) (w : Str) (c : Nat), (recI w c its).map (·.2) = actI w c its
  | [], _, _ => rfl
  | k :: t, w, c => by
    show staysI w c k :: (recI (nxtW w c k) (nxtC w c k) t).map (·.2) = _
    rw [recI_act t]
    rfl
theorem recI_known (its : List Str) (w : Str) (c : Nat) : ∀ e ∈ recI w c its, e.1.isSome = true := by
  intro e he
  have : e.1 ∈ (recI w c its).map (·.1) := List.mem_map.mpr ⟨e, he, rfl⟩
  rw [recI_kind] at this
  obtain ⟨k, _, hk⟩ := List.mem_map.mp this
  rw [← hk]
  rfl
theorem filt_one {w : Str} {p : Str → Bool} : ∀ {ks : List Str}, ks.Nodup → w ∈ ks → (∀ k ∈ ks, p k = decide (k = w)) → (ks.filter p).length = 1
  | [], _, h, _ => by cases h
  | k :: t, nd, h, e => by
    have nd := List.nodup_cons.mp nd
    have ek := e k (List.mem_cons_self ..)
    by_cases c : k = w
    · rw [decide_eq_true c] at ek
      rw [List.filter_cons, if_pos ek, List.filter_eq_nil_iff.mpr]
      · rfl
      · intro a ha hp
        rw [e a (List.mem_cons_of_mem _ ha)] at hp
        have := of_decide_eq_true hp
        rw [this, ← c] at ha
        exact nd.1 ha
    · rw [decide_eq_false c] at ek
      rw [List.filter_cons, if_neg (by rw [ek]; decide)]
      refine filt_one nd.2 ?_ fun a ha => e a (List.mem_cons_of_mem _ ha)
      rcases List.mem_cons.mp h with z | z
      · exact absurd z.symm c
      · exact z
theorem ks_nodup {ks : List Str} (h : KsOk ks) : ks.Nodup := by
  have step := h.2.2.2
  have lt : ∀ (d i : Nat) (x y : Str), ks[i]? = some x → ks[i + 1 + d]? = some y → x.cps.toList < y.cps.toList := by
    intro d
    induction d with
    | zero => intro i x y hx hy; exact step i x y hx hy
    | succ d ih =>
      intro i x y hx hy
      have hl : i + 1 + (d + 1) < ks.length := (List.getElem?_eq_some_iff.mp hy).1
      obtain ⟨z, hz⟩ : ∃ z, ks[i + 1]? = some z := ⟨_, List.getElem?_eq_getElem (by omega)⟩
      have h1 := step i x z hx hz
      have h2 := ih (i + 1) z y hz (by rw [show i + 1 + 1 + d = i + 1 + (d + 1) by omega]; exact hy)
      exact List.lt_trans h1 h2
  refine List.pairwise_iff_getElem.mpr fun i j hi hj hij e => ?_
  have h1 := lt (j - i - 1) i ks[i] ks[j] (List.getElem?_eq_getElem hi) (by rw [show i + 1 + (j - i - 1) = j by omega]; exact List.getElem?_eq_getElem hj)
  rw [e] at h1
  exact List.lt_irrefl _ h1
theorem prod_one : ∀ {l : List Nat} (a : Nat), (∀ n ∈ l, n = 1) → l.foldl (· * ·) a = a
  | [], _, _ => rfl
  | n :: t, a, h => by
    show t.foldl (· * ·) (a * n) = a
    rw [h n (List.mem_cons_self ..), Nat.mul_one]
    exact prod_one a fun x hx => h x (List.mem_cons_of_mem _ hx)
theorem num_full {ks : List Str} (nd : ks.Nodup) {L : List (List En)} {its : List Str} (h : EpsF L its) : (∀ x ∈ its, x ∈ ks) → (∀ ep ∈ L, ∀ e ∈ ep, e.1.isSome = true) → ∀ n ∈ L.flatMap (numP ks), n = 1 := by
  induction h with
  | nil => intro _ _ n hn; cases hn
  | @cons w ep t rest r h _ ih =>
    intro hin kn n hn
    rw [List.flatMap_cons] at hn
    rcases List.mem_append.mp hn with z | z
    · have hw := hin w (List.mem_append.mpr (.inl (List.mem_cons_self ..)))
      have kn1 := kn ep (List.mem_cons_self ..)
      have hb := h
      cases h with
      | @cons e _ er _ h1 h2 =>
      unfold numP at z
      rcases List.mem_cons.mp z with q | q
      · rw [q, optW_eq, if_pos (by rw [h1.1]; exact decide_eq_true rfl)]
        refine filt_one nd hw fun k hk => ?_
        obtain ⟨x, hx⟩ := Option.isSome_iff_exists.mp (kn1 e (List.mem_cons_self ..))
        have hwk : w ∈ knE (e :: er) true := by
          unfold knE
          refine List.mem_filterMap.mpr ⟨e, List.mem_cons_self .., ?_⟩
          rw [if_pos (by rw [h1.1]; exact decide_eq_true rfl), hx, h1.2 x hx]
        by_cases c : k = w
        · subst c
          rw [decide_eq_true rfl]
          have := w_opt hb hw
          rw [optW_eq, if_pos (by rw [h1.1]; exact decide_eq_true rfl)] at this
          exact (List.mem_filter.mp this).2
        · rw [decide_eq_false c]
          unfold pW
          rw [Bool.and_eq_false_iff]
          right
          rw [List.all_eq_false]
          exact ⟨w, hwk, by rw [decide_eq_false c]; decide⟩
      · obtain ⟨e', he', rfl⟩ := List.mem_map.mp q
        have k1 := kn1 e' (List.mem_cons_of_mem _ he')
        unfold optL
        split
        · rfl
        · split
          · next hn => rw [hn] at k1; cases k1
          · rfl
    · exact ih (fun x hx => hin x (List.mem_append.mpr (.inr hx))) (fun ep' he => kn ep' (List.mem_cons_of_mem _ he)) n z
theorem cnt_full {ks : List Str} {es : List En} {its : List Str} (h : FitE "" 0 es its) (hin : ∀ x ∈ its, x ∈ ks) (nd : ks.Nodup) (kn : ∀ e ∈ es, e.1.isSome = true) : cntE ks es = 1 := by
  unfold cntE prodN numE
  exact prod_one 1 (num_full nd (eps_fit h) hin fun ep he e hm => kn e (eps_mem he e hm))
theorem cer_full {ks : List Str} {es : List En} (kn : ∀ e ∈ es, e.1.isSome = true) : cerE ks es = es.map (·.1) := by
  have gen : ∀ L : List (List En), (∀ ep ∈ L, ∀ e ∈ ep, e.1.isSome = true) → (L.flatMap fun ep => ep.map (cerK ks (optW ks ep))) = L.flatten.map (·.1) := by
    intro L
    induction L with
    | nil => intro _; rfl
    | cons ep r ih =>
      intro k
      rw [List.flatMap_cons, List.flatten_cons, List.map_append, ih fun ep' he => k ep' (List.mem_cons_of_mem _ he)]
      congr 1
      refine List.map_congr_left fun e he => ?_
      unfold cerK
      rw [k ep (List.mem_cons_self ..) e he]
      rfl
  unfold cerE
  rw [gen _ fun ep he e hm => kn e (eps_mem he e hm), eps_join]
/-! ### what is certain agrees with the items -/
def CerR (c : Option Str) (k : Str) : Prop := c = none ∨ c = some k
theorem cer_fitL {ks : List Str} {L : List (List En)} {its : List Str} (h : EpsF L its) : (∀ x ∈ its, x ∈ ks) → Paired CerR (L.flatMap fun ep => ep.map (cerK ks (optW ks ep))) its := by
  induction h with
  | nil => intro _; exact .nil
  | @cons w ep t rest r h _ ih =>
    intro hin
    rw [List.flatMap_cons]
    refine Paired.app ?_ (ih fun x hx => hin x (List.mem_append.mpr (.inr hx)))
    have ins : ∀ k ∈ w :: t, k ∈ ks := fun k hk => hin k (List.mem_append.mpr (.inl hk))
    have hw := w_opt h (ins w (List.mem_cons_self ..))
    generalize optW ks ep = opt at *
    have one : ∀ e k, e.2 = decide (k = w) → KnE e k → k ∈ ks → CerR (cerK ks opt e) k := fun e k h1 h2 hk => by
      unfold cerK
      cases e1 : e.1 with
      | some x =>
        refine .inr ?_
        show some x = some k
        rw [h2 x e1]
      | none =>
        by_cases c : opt.length > 1
        · rw [decide_eq_true c]
          exact .inl rfl
        · rw [decide_eq_false c]
          show CerR (match optL ks (opt.headD "") e with
            | [x] => some x
            | _ => none) k
          have eo : opt.headD "" = w := by
            match opt, hw, c with
            | [z], hw, _ => exact (List.mem_singleton.mp hw).symm
            | z :: y :: r, _, c => exact absurd (by simp) c
          rw [eo]
          have ho := opt_item h1 h2 hk
          generalize optL ks w e = L at *
          match L, ho with
          | [x], ho => exact .inr (by rw [List.mem_singleton.mp ho])
          | x :: y :: r, ho => exact .inl rfl
    clear hw ih hin
    revert ins
    generalize w :: t = its at h ⊢
    intro ins
    induction h with
    | nil => exact .nil
    | @cons e k er t' h1 _ ih => exact .cons (one e k h1.1 h1.2 (ins k (List.mem_cons_self ..))) (ih fun x hx => ins x (List.mem_cons_of_mem _ hx))
theorem cer_fit {ks : List Str} {es : List En} {its : List Str} (h : FitE "" 0 es its) (hin : ∀ x ∈ its, x ∈ ks) : Paired CerR (cerE ks es) its := cer_fitL (eps_fit h) hin
/-! ### two records with the same actions -/
theorem spl_pair {R : En → En → Prop} (hR : ∀ a b, R a b → a.2 = b.2) : ∀ {es es' : List En}, Paired R es es' → ∀ l, Paired R (splE l es).1 (splE l es').1 ∧ Paired (Paired R) (splE l es).2 (splE l es').2
  | _, _, .nil, l => ⟨.nil, .nil⟩
  | e :: es, e' :: es', .cons h p, l => by
    have en : nxtE l e = nxtE l e' := by
      unfold nxtE
      rw [hR _ _ h]
    obtain ⟨i1, i2⟩ := spl_pair hR p (nxtE l e')
    rw [splE, splE, en]
    by_cases c : l = 0
    · rw [if_pos c, if_pos c]
      exact ⟨.nil, .cons (.cons h i1) i2⟩
    · rw [if_neg c, if_neg c]
      exact ⟨.cons h i1, i2⟩
theorem eps_pair {R : En → En → Prop} (hR : ∀ a b, R a b → a.2 = b.2) {es es' : List En} (h : Paired R es es') : Paired (Paired R) (epsE es) (epsE es') := (spl_pair hR h 0).2
/-! ### less is known -/
def LeE (e' e : En) : Prop := e'.2 = e.2 ∧ (e'.1 = none ∨ e'.1 = e.1)
theorem kn_less {ep' ep : List En} (h : Paired LeE ep' ep) (b : Bool) : ∀ x ∈ knE ep' b, x ∈ knE ep b := by
  intro x hx
  obtain ⟨e', he, h1⟩ := List.mem_filterMap.mp hx
  obtain ⟨j, ej⟩ := List.getElem?_of_mem he
  obtain ⟨e, ee, h2, h3⟩ := Paired.at h ej
  split at h1
  · next c =>
    refine List.mem_filterMap.mpr ⟨e, List.mem_of_getElem? ee, ?_⟩
    rw [if_pos (by rw [← h2]; exact c)]
    rcases h3 with z | z
    · rw [z] at h1; cases h1
    · rw [← z]; exact h1
  · cases h1
theorem filt_le {p q : Str → Bool} {ks : List Str} (h : ∀ k, p k = true → q k = true) : (ks.filter p).length ≤ (ks.filter q).length := by
  rw [← List.countP_eq_length_filter, ← List.countP_eq_length_filter]
  exact List.countP_mono_left fun k _ => h k
theorem num_less {ks : List Str} (l0 : 0 < ks.length) {L : List (List En)} {its : List Str} (h : EpsF L its) : (∀ x ∈ its, x ∈ ks) → ∀ {L' : List (List En)}, Paired (Paired LeE) L' L → Paired (· ≤ ·) (L.flatMap (numP ks)) (L'.flatMap (numP ks)) := by
  induction h with
  | nil => intro _ L' p; cases p; exact .nil
  | @cons w ep t rest r h _ ih =>
    intro hin L' p
    cases p with
    | @cons ep' _ r' _ hp pr =>
    rw [List.flatMap_cons, List.flatMap_cons]
    refine Paired.app ?_ (ih (fun x hx => hin x (List.mem_append.mpr (.inr hx))) pr)
    have ins : ∀ k ∈ w :: t, k ∈ ks := fun k hk => hin k (List.mem_append.mpr (.inl hk))
    have hw := ins w (List.mem_cons_self ..)
    unfold numP
    refine .cons ?_ ?_
    · have k1 := kn_less hp true
      have k2 := kn_less hp false
      cases hp with
      | nil => exact Nat.le_refl _
      | @cons e' e er' er h1 h2 =>
        rw [optW_eq, optW_eq, h1.1]
        split
        · refine filt_le fun k hk => ?_
          unfold pW at hk ⊢
          rw [Bool.and_eq_true] at hk ⊢
          refine ⟨?_, List.all_eq_true.mpr fun x hx => List.all_eq_true.mp hk.2 x (k1 x hx)⟩
          have h3 := hk.1
          simp only [Bool.not_eq_true', decide_eq_false_iff_not] at h3 ⊢
          exact fun z => h3 (k2 k z)
        · exact Nat.le_refl _
    · have tl : EpB w ep.tail t := by
        cases h with
        | cons _ h2 => exact h2
      have tp := pair_tail hp
      have ins2 : ∀ k ∈ t, k ∈ ks := fun k hk => ins k (List.mem_cons_of_mem _ hk)
      revert ins2
      generalize ep.tail = A at tl tp
      generalize ep'.tail = A' at tp
      clear hp h ih hin ins pr
      induction tl generalizing A' with
      | nil => intro _; cases tp; exact .nil
      | @cons e k er t' h1 _ ih =>
        intro ins2
        cases tp with
        | @cons e' _ er' _ g1 g2 =>
        refine .cons ?_ (ih _ g2 fun x hx => ins2 x (List.mem_cons_of_mem _ hx))
        show (optL ks (ks.headD "") e).length ≤ (optL ks (ks.headD "") e').length
        unfold optL
        rw [g1.1]
        by_cases c : e.2 = true
        · rw [if_pos c, if_pos c]
          exact Nat.le_refl _
        · rw [if_neg c, if_neg c]
          rcases g1.2 with z | z
          · rw [z]
            cases e1 : e.1 with
            | none => exact Nat.le_refl _
            | some x =>
              have hk := ins2 k (List.mem_cons_self ..)
              have nkw : k ≠ w := fun z => c (by rw [h1.1, decide_eq_true z])
              show 1 ≤ (ks.filter fun k => !decide (k = ks.headD "")).length
              refine List.length_pos_iff.mpr (List.ne_nil_of_mem (a := if k = ks.headD "" then w else k) (List.mem_filter.mpr ?_))
              by_cases q : k = ks.headD ""
              · rw [if_pos q]
                exact ⟨hw, by rw [decide_eq_false (fun y => nkw (by rw [q, y]))]; rfl⟩
              · rw [if_neg q]
                exact ⟨hk, by rw [decide_eq_false q]; rfl⟩
          · rw [z]
            exact Nat.le_refl _
theorem prod_mono : ∀ {l l' : List Nat} (a a' : Nat), a ≤ a' → Paired (· ≤ ·) l l' → l.foldl (· * ·) a ≤ l'.foldl (· * ·) a'
  | _, _, a, a', h, .nil => h
  | n :: t, n' :: t', a, a', h, .cons h1 p => prod_mono (a * n) (a' * n') (Nat.mul_le_mul h h1) p
theorem cnt_less {ks : List Str} {es less : List En} {its : List Str} (h : FitE "" 0 es its) (hin : ∀ x ∈ its, x ∈ ks) (l0 : 0 < ks.length) (p : Paired LeE less es) : cntE ks es ≤ cntE ks less := by
  unfold cntE prodN numE
  exact prod_mono 1 1 (Nat.le_refl _) (num_less l0 (eps_fit h) hin (eps_pair (fun _ _ z => z.1) p))
theorem fit_less : ∀ {less es : List En}, Paired LeE less es → ∀ {its : List Str} {w : Str} {c : Nat}, FitE w c es its → FitE w c less its
  | _, _, .nil, its, w, c, h => h
  | e' :: _, e :: _, .cons h1 p, k :: t, w, c, h => ⟨by rw [h1.1]; exact h.1, fun x hx => by
      rcases h1.2 with z | z
      · rw [z] at hx; cases hx
      · exact h.2.1 x (by rw [← z]; exact hx), fit_less p h.2.2⟩
  | _ :: _, _ :: _, .cons _ _, [], _, _, h => h.elim
end UP

set_option Elab.async false
set_option linter.all false
set_option maxRecDepth 100000
set_option maxHeartbeats 4000000
set_option pp.maxSteps 400
namespace UP
open PySem PySem.Spec PyProof.Rows L2
/-! ### other names -/
def ReN (φ : Str → Str) (e' e : En) : Prop := e'.2 = e.2 ∧ e'.1 = e.1.map φ
def Inj (φ : Str → Str) (ks : List Str) : Prop := ∀ x ∈ ks, ∀ y ∈ ks, φ x = φ y → x = y
section
variable {φ : Str → Str} {ks : List Str}
theorem kn_ren {ep' ep : List En} (h : Paired (ReN φ) ep' ep) (b : Bool) : knE ep' b = (knE ep b).map φ := by
  induction h with
  | nil => rfl
  | @cons e' e er' er h _ ih =>
    unfold knE at ih ⊢
    rw [List.filterMap_cons, List.filterMap_cons, h.1, h.2, ih]
    by_cases c : e.2 = b
    · rw [if_pos c, if_pos c]
      cases e.1 with
      | none => rfl
      | some x => rfl
    · rw [if_neg c, if_neg c]
theorem kn_in {ep : List En} (h : InK ks ep) (b : Bool) : ∀ x ∈ knE ep b, x ∈ ks := by
  intro x hx
  obtain ⟨e, he, h1⟩ := List.mem_filterMap.mp hx
  split at h1
  · exact h e he x h1
  · cases h1
theorem dec_ren (hi : Inj φ ks) {x y : Str} (hx : x ∈ ks) (hy : y ∈ ks) : decide (φ x = φ y) = decide (x = y) := decide_eq_decide.mpr ⟨hi x hx y hy, fun h => congrArg φ h⟩
theorem pW_ren (hi : Inj φ ks) {ep' ep : List En} (h : Paired (ReN φ) ep' ep) (ik : InK ks ep) {k : Str} (hk : k ∈ ks) : pW ep' (φ k) = pW ep k := by
  unfold pW
  rw [kn_ren h, kn_ren h]
  congr 1
  · congr 1
    refine decide_eq_decide.mpr ⟨fun z => ?_, fun z => List.mem_map.mpr ⟨k, z, rfl⟩⟩
    obtain ⟨y, hy, e⟩ := List.mem_map.mp z
    rw [← hi y (kn_in ik false y hy) k hk e]
    exact hy
  · rw [List.all_map]
    have : ∀ l : List Str, (∀ x ∈ l, x ∈ ks) → l.all ((fun w => decide (φ k = w)) ∘ φ) = l.all fun w => decide (k = w) := by
      intro l
      induction l with
      | nil => intro _; rfl
      | cons x t ih =>
        intro hl
        rw [List.all_cons, List.all_cons, ih fun y hy => hl y (List.mem_cons_of_mem _ hy)]
        congr 1
        exact dec_ren hi hk (hl x (List.mem_cons_self ..))
    exact this _ (kn_in ik true)
theorem optW_ren (hi : Inj φ ks) {ep' ep : List En} (h : Paired (ReN φ) ep' ep) (ik : InK ks ep) : optW (ks.map φ) ep' = (optW ks ep).map φ := by
  have hh := h
  cases h with
  | nil => rfl
  | @cons e' e er' er h1 h2 =>
    rw [optW_eq, optW_eq, h1.1]
    split
    · rw [List.filter_map]
      congr 1
      exact List.filter_congr fun k hk => pW_ren hi hh ik hk
    · rfl
theorem optL_ren (hi : Inj φ ks) {e' e : En} (h : ReN φ e' e) {w : Str} (hw : w ∈ ks) : optL (ks.map φ) (φ w) e' = (optL ks w e).map φ := by
  unfold optL
  rw [h.1, h.2]
  split
  · rfl
  · cases e.1 with
    | some x => rfl
    | none =>
      show (ks.map φ).filter (fun k => !decide (k = φ w)) = (ks.filter fun k => !decide (k = w)).map φ
      rw [List.filter_map]
      congr 1
      refine List.filter_congr fun k hk => ?_
      show (!decide (φ k = φ w)) = _
      rw [dec_ren hi hk hw]
theorem head_ren (l0 : 0 < ks.length) : (ks.map φ).headD "" = φ (ks.headD "") ∧ ks.headD "" ∈ ks := by
  cases ks with
  | nil => exact absurd l0 (by decide)
  | cons k r => exact ⟨rfl, List.mem_cons_self ..⟩
theorem numP_ren (hi : Inj φ ks) (l0 : 0 < ks.length) {ep' ep : List En} (h : Paired (ReN φ) ep' ep) (ik : InK ks ep) : numP (ks.map φ) ep' = numP ks ep := by
  obtain ⟨h1, h2⟩ := head_ren (φ := φ) l0
  unfold numP
  rw [optW_ren hi h ik, List.length_map, h1]
  congr 1
  have tp := pair_tail h
  generalize ep.tail = A at tp
  generalize ep'.tail = A' at tp
  induction tp with
  | nil => rfl
  | @cons e' e _ _ g _ ih =>
    rw [List.map_cons, List.map_cons, ih, optL_ren hi g h2, List.length_map]
theorem numL_ren (hi : Inj φ ks) (l0 : 0 < ks.length) {L' L : List (List En)} (h : Paired (Paired (ReN φ)) L' L) : (∀ ep ∈ L, InK ks ep) → L'.flatMap (numP (ks.map φ)) = L.flatMap (numP ks) := by
  induction h with
  | nil => intro _; rfl
  | cons h _ ih =>
    intro ik
    rw [List.flatMap_cons, List.flatMap_cons, numP_ren hi l0 h (ik _ (List.mem_cons_self ..)), ih fun ep he => ik ep (List.mem_cons_of_mem _ he)]
theorem cnt_ren (hi : Inj φ ks) (l0 : 0 < ks.length) {es' es : List En} (h : Paired (ReN φ) es' es) (ik : InK ks es) : cntE (ks.map φ) es' = cntE ks es := by
  unfold cntE numE
  rw [numL_ren hi l0 (eps_pair (fun _ _ z => z.1) h) fun ep he e hm => ik e (eps_mem he e hm)]
theorem optE_ren (hi : Inj φ ks) {L : List (List En)} {its : List Str} (h : EpsF L its) : ∀ {L' : List (List En)}, Paired (Paired (ReN φ)) L' L → (∀ x ∈ its, x ∈ ks) → (∀ ep ∈ L, InK ks ep) → optE (ks.map φ) L' (its.map φ) = (optE ks L its).map (List.map φ) := by
  induction h with
  | nil => intro L' p _ _; cases p; rfl
  | @cons w ep t rest r h _ ih =>
    intro L' p hin ik
    cases p with
    | @cons ep' _ r' _ hp pr =>
    have l1 := h.len
    have l2 := Paired.len hp
    have e1 : ((w :: t) ++ rest).drop ep.length = rest := by rw [← l1, List.drop_left]
    have e2 : (((w :: t) ++ rest).map φ).drop ep'.length = rest.map φ := by rw [List.map_append, l2, ← l1, ← List.length_map (f := φ), List.drop_left]
    have hw := hin w (List.mem_append.mpr (.inl (List.mem_cons_self ..)))
    rw [optE, optE, e1, e2, ih pr (fun x hx => hin x (List.mem_append.mpr (.inr hx))) (fun ep he => ik ep (List.mem_cons_of_mem _ he)), show (((w :: t) ++ rest).map φ).headD "" = φ w from rfl, show ((w :: t) ++ rest).headD "" = w from rfl, List.map_append]
    congr 1
    unfold optP
    rw [List.map_cons, optW_ren hi hp (ik ep (List.mem_cons_self ..)), List.map_map]
    congr 1
    have tp := pair_tail hp
    generalize ep.tail = A at tp
    generalize ep'.tail = A' at tp
    clear hp h
    induction tp with
    | nil => rfl
    | @cons e' e _ _ g _ ih =>
      rw [List.map_cons, List.map_cons, ih, optL_ren hi g hw]
      rfl
theorem idx_ren (hi : Inj φ ks) {x : Str} (hx : x ∈ ks) : ∀ {o : List Str}, (∀ y ∈ o, y ∈ ks) → (o.map φ).idxOf (φ x) = o.idxOf x
  | [], _ => rfl
  | y :: t, h => by
    rw [List.map_cons, List.idxOf_cons, List.idxOf_cons, idx_ren hi hx fun z hz => h z (List.mem_cons_of_mem _ hz)]
    by_cases c : y = x
    · rw [c]
      simp
    · have c2 : ¬ φ y = φ x := fun z => c (hi y (h y (List.mem_cons_self ..)) x hx z)
      have e1 : (y == x) = false := by simpa using c
      have e2 : (φ y == φ x) = false := by simpa using c2
      rw [e1, e2]
theorem optW_in {ep : List En} : ∀ x ∈ optW ks ep, x ∈ ks := by
  intro x hx
  cases ep with
  | nil => cases hx
  | cons e r =>
    rw [optW_eq] at hx
    split at hx
    · exact (List.mem_filter.mp hx).1
    · cases hx
theorem optE_in : ∀ {L : List (List En)} {its : List Str}, (∀ ep ∈ L, InK ks ep) → (∀ x ∈ its, x ∈ ks) → its.length = L.flatten.length → (∀ ep ∈ L, ep ≠ []) → ∀ o ∈ optE ks L its, ∀ x ∈ o, x ∈ ks
  | [], _, _, _, _, _ => fun o h => by cases h
  | ep :: r, its, ik, hin, hl, ne => fun o h x hx => by
    rw [optE] at h
    have np := List.length_pos_iff.mpr (ne ep (List.mem_cons_self ..))
    rw [List.flatten_cons, List.length_append] at hl
    rcases List.mem_append.mp h with z | z
    · unfold optP at z
      rcases List.mem_cons.mp z with q | q
      · rw [q] at hx
        exact optW_in x hx
      · obtain ⟨e, he, rfl⟩ := List.mem_map.mp q
        unfold optL at hx
        split at hx
        · rw [List.mem_singleton.mp hx]
          cases its with
          | nil => rw [List.length_nil] at hl; omega
          | cons k t => exact hin k (List.mem_cons_self ..)
        · split at hx
          · exact (List.mem_filter.mp hx).1
          · next k hk =>
            rw [List.mem_singleton.mp hx]
            exact ik ep (List.mem_cons_self ..) e (List.mem_of_mem_tail he) k hk
    · exact optE_in (fun ep he => ik ep (List.mem_cons_of_mem _ he)) (fun x hx => hin x (List.mem_of_mem_drop hx)) (by rw [List.length_drop]; omega) (fun ep he => ne ep (List.mem_cons_of_mem _ he)) o z x hx
theorem fold_ren {g : Str × List Str → Str × List Str} : ∀ (Z : List (Str × List Str)) (a : Nat), (∀ p ∈ Z, ∀ a, stepI a (g p) = stepI a p) → (Z.map g).foldl stepI a = Z.foldl stepI a
  | [], _, _ => rfl
  | p :: t, a, h => by
    show (t.map g).foldl stepI (stepI a (g p)) = t.foldl stepI (stepI a p)
    rw [h p (List.mem_cons_self ..), fold_ren t _ fun x hx => h x (List.mem_cons_of_mem _ hx)]
theorem ix_ren (hi : Inj φ ks) {es' es : List En} {its : List Str} (h : FitE "" 0 es its) (p : Paired (ReN φ) es' es) (hin : ∀ x ∈ its, x ∈ ks) (ik : InK ks es) :
    ixZ ((its.map φ).zip (optE (ks.map φ) (epsE es') (its.map φ))) = ixZ (its.zip (optE ks (epsE es) its)) := by
  have iks : ∀ ep ∈ epsE es, InK ks ep := fun ep he e hm => ik e (eps_mem he e hm)
  rw [optE_ren hi (eps_fit h) (eps_pair (fun _ _ z => z.1) p) hin iks, List.zip_map]
  unfold ixZ
  refine fold_ren _ 0 fun q hq a => ?_
  have h1 := (List.of_mem_zip (a := q.1) (b := q.2) hq).1
  have h2 := (List.of_mem_zip (a := q.1) (b := q.2) hq).2
  unfold stepI
  show a * (q.2.map φ).length + (q.2.map φ).idxOf (φ q.1) = _
  rw [List.length_map, idx_ren hi (hin _ h1) (optE_in iks hin (eps_fit h).len (fun ep he => eps_ne ep he) _ h2)]
theorem fit_w0 : ∀ {es : List En} {its : List Str} {w w' : Str}, FitE w 0 es its → FitE w' 0 es its
  | [], [], _, _, _ => True.intro
  | _ :: _, _ :: _, _, _, h => h
  | [], _ :: _, _, _, h => h.elim
  | _ :: _, [], _, _, h => h.elim
theorem fit_ren (hi : Inj φ ks) : ∀ {es' es : List En}, Paired (ReN φ) es' es → ∀ {its : List Str} {w : Str} {c : Nat}, (c = 0 ∨ w ∈ ks) → (∀ x ∈ its, x ∈ ks) → FitE w c es its → FitE (φ w) c es' (its.map φ)
  | _, _, .nil, [], _, _, _, _, _ => True.intro
  | _, _, .nil, _ :: _, _, _, _, _, h => h.elim
  | _ :: _, _ :: _, .cons _ _, [], _, _, _, _, h => h.elim
  | e' :: _, e :: _, .cons h1 p, k :: t, w, c, hw, hin, h => by
    have hk := hin k (List.mem_cons_self ..)
    have st : staysI (φ w) c (φ k) = staysI w c k := by
      unfold staysI
      rcases hw with z | z
      · rw [z]; rfl
      · rw [dec_ren hi hk z]
    have ew : nxtW (φ w) c (φ k) = φ (nxtW w c k) := by
      unfold nxtW
      rw [st]
      split <;> rfl
    have ec : nxtC (φ w) c (φ k) = nxtC w c k := by
      unfold nxtC
      rw [st]
    have inw : nxtW w c k ∈ ks := by
      unfold nxtW
      split
      · exact hk
      · next hs =>
        rcases hw with z | z
        · exact absurd (by unfold staysI; rw [z]; rfl) hs
        · exact z
    refine ⟨by rw [h1.1, h.1, st], fun x hx => ?_, ?_⟩
    · rw [h1.2] at hx
      obtain ⟨y, hy, rfl⟩ := Option.map_eq_some_iff.mp hx
      rw [h.2.1 y hy]
    · rw [ew, ec]
      exact fit_ren hi p (.inr inw) (fun x hx => hin x (List.mem_cons_of_mem _ hx)) h.2.2
end
/-! ### a record behind another one -/
def shC (n : Nat) : Cf → Cf
  | .lev l => .lev (l + n)
  | .thr w a l => .thr w (a + n) (l + n)
section
variable {ks : List Str} {A B : List En}
theorem enA_app (a : Nat) : enA (A ++ B) (a + A.length) = enA B a := by
  unfold enA
  rw [List.getD_eq_getElem?_getD, List.getD_eq_getElem?_getD, List.getElem?_append_right (by omega), Nat.add_sub_cancel]
theorem oth_app (f l : Nat) : othE (A ++ B) (f + A.length) (l + A.length) = (othE B f l).map (· + A.length) := by
  unfold othE
  have e : List.range' (f + A.length) (l + A.length - (f + A.length)) = (List.range' f (l - f)).map (· + A.length) := by
    rw [show l + A.length - (f + A.length) = l - f by omega, show (fun x : Nat => x + A.length) = (A.length + ·) from funext fun x => Nat.add_comm _ _, List.map_add_range', Nat.add_comm A.length f]
  rw [e, List.filter_map]
  congr 1
  refine List.filter_congr fun a _ => ?_
  show ((enA (A ++ B) (l + A.length)).1.isSome && (enA (A ++ B) (a + A.length)).1.isSome) = _
  rw [enA_app, enA_app]
theorem btw_app (f l : Nat) : btwE (A ++ B) (f + A.length) (l + A.length) = (btwE B f l).map (shC A.length) := by
  unfold btwE
  rw [oth_app, enA_app, List.map_append, List.filter_map, List.filter_map, List.map_map, List.map_map, List.map_map, List.map_map]
  congr 1
  · congr 1
    refine List.filter_congr fun a _ => ?_
    show ((decide ((enA B l).2 = (enA (A ++ B) (a + A.length)).2) && decide ((enA (A ++ B) (a + A.length)).2 = true)) && !decide ((enA (A ++ B) (a + A.length)).1 = (enA B l).1)) = _
    rw [enA_app]
  · congr 1
    refine List.filter_congr fun a _ => ?_
    show ((!decide ((enA B l).2 = (enA (A ++ B) (a + A.length)).2)) && decide ((enA (A ++ B) (a + A.length)).1 = (enA B l).1)) = _
    rw [enA_app]
theorem cut_app (f l : Nat) : cutE (A ++ B) (f + A.length) (l + A.length) = cutE B f l := by
  unfold cutE
  rw [show l + A.length + 1 - (f + A.length) = l + 1 - f by omega, Nat.add_comm f, ← List.drop_drop, List.drop_left]
theorem cfs_app (f l : Nat) : cfsE ks (A ++ B) (f + A.length) (l + A.length) = (cfsE ks B f l).map (shC A.length) := by
  unfold cfsE
  rw [enA_app, btw_app, cut_app, show decide (f + A.length = l + A.length) = decide (f = l) from decide_eq_decide.mpr ⟨fun z => by omega, fun z => by omega⟩]
  split
  · rfl
  · rw [List.map_append]
    congr 1
    split <;> rfl
theorem cfGo_app : ∀ (L : List (List En)) (f : Nat), cfGo ks (A ++ B) (f + A.length) L = (cfGo ks B f L).map (shC A.length)
  | [], _ => rfl
  | ep :: r, f => by
    have e1 : cfEp ks (A ++ B) (f + A.length) ep.length = (cfEp ks B f ep.length).map (shC A.length) := by
      unfold cfEp
      have : ∀ l : List Nat, (l.findSome? fun j => (cfsE ks (A ++ B) (f + A.length) (f + A.length + j)).head?) = (l.findSome? fun j => (cfsE ks B f (f + j)).head?).map (shC A.length) := by
        intro l
        induction l with
        | nil => rfl
        | cons j t ih =>
          rw [List.findSome?_cons, List.findSome?_cons, show f + A.length + j = (f + j) + A.length by omega, cfs_app, List.head?_map, ih]
          cases (cfsE ks B f (f + j)).head? <;> rfl
      exact this _
    rw [cfGo, cfGo, e1, show f + A.length + ep.length = (f + ep.length) + A.length by omega, cfGo_app r]
    cases cfEp ks B f ep.length <;> rfl
theorem eps_app (h : lvlE 0 A = 0) : epsE (A ++ B) = epsE A ++ epsE B := by
  rw [← go_eps, goE_app, go_eps, h, goE_eq _ _ _ (fun z => absurd rfl z)]
  unfold attE epsE
  rw [if_pos rfl]
theorem fold_mul : ∀ (l : List Nat) (a : Nat), l.foldl (· * ·) a = a * l.foldl (· * ·) 1
  | [], a => (Nat.mul_one a).symm
  | n :: t, a => by
    show t.foldl (· * ·) (a * n) = a * t.foldl (· * ·) (1 * n)
    rw [fold_mul t (a * n), fold_mul t (1 * n), Nat.one_mul, Nat.mul_assoc]
theorem cnt_app (h : lvlE 0 A = 0) : cntE ks (A ++ B) = cntE ks A * cntE ks B := by
  unfold cntE numE prodN
  rw [eps_app h, List.flatMap_append, List.foldl_append, fold_mul]
end
def twoA : List En := [(none, true), (none, false)]
theorem two_cf {ks : List Str} (l1 : 1 < ks.length) (B : List En) : cfE ks (twoA ++ B) = (cfE ks B).map (shC 2) := by
  have e1 : epsE twoA = [twoA] := rfl
  have ex : ∀ ep : List En, knE ep true = [] → knE ep false = [] → exhE ks ep = false := fun ep h1 h2 => by
    unfold exhE
    rw [h1, h2, decide_eq_false (show ¬ ks.length = 1 by omega)]
    cases ks with
    | nil => exact absurd l1 (by decide)
    | cons k r => rfl
  have e0 : cfEp ks (twoA ++ B) 0 2 = none := by
    refine find_none fun j hj => ?_
    rcases (show j = 0 ∨ j = 1 by omega) with z | z
    · subst z
      have : cfsE ks (twoA ++ B) 0 (0 + 0) = [] := by
        unfold cfsE
        rw [ex (cutE (twoA ++ B) 0 (0 + 0)) rfl rfl]
        rfl
      rw [this]
      rfl
    · subst z
      have : cfsE ks (twoA ++ B) 0 (0 + 1) = [] := by
        unfold cfsE
        rw [ex (cutE (twoA ++ B) 0 (0 + 1)) rfl rfl]
        rfl
      rw [this]
      rfl
  unfold cfE
  rw [eps_app (A := twoA) rfl, e1]
  show (cfEp ks (twoA ++ B) 0 2).or (cfGo ks (twoA ++ B) (0 + 2) (epsE B)) = _
  rw [e0]
  show cfGo ks (twoA ++ B) (0 + twoA.length) (epsE B) = _
  rw [cfGo_app]
  rfl
theorem shC0 (c : Cf) : shC 0 c = c := by cases c <;> rfl
end UP

set_option Elab.async false
set_option linter.all false
set_option maxRecDepth 100000
set_option maxHeartbeats 4000000
set_option pp.maxSteps 400
namespace UP
open PySem PySem.Spec PyProof.Rows L2
/-! ### all lists over the kinds, and those that fit -/
theorem prod_cons (n : Nat) (l : List Nat) : prodN (n :: l) = n * prodN l := by
  unfold prodN
  rw [List.foldl_cons, fold_mul, Nat.one_mul]
theorem prod_app (a b : List Nat) : prodN (a ++ b) = prodN a * prodN b := by
  unfold prodN
  rw [List.foldl_append, fold_mul b]
theorem prod_nil : prodN [] = 1 := rfl
def allC (ks : List Str) : Nat → List (List Str)
  | 0 => [[]]
  | n + 1 => ks.flatMap fun x => (allC ks n).map (x :: ·)
theorem allC_snoc (ks : List Str) : ∀ n, allC ks (n + 1) = (allC ks n).flatMap fun r => ks.map fun k => r ++ [k]
  | 0 => by
    show ks.flatMap (fun x => [[x]]) = [[]].flatMap fun r => ks.map fun k => r ++ [k]
    rw [List.flatMap_cons, List.flatMap_nil, List.append_nil]
    induction ks with
    | nil => rfl
    | cons x t ih => rw [List.flatMap_cons, ih]; rfl
  | n + 1 => by
    show ks.flatMap (fun x => (allC ks (n + 1)).map (x :: ·)) = (ks.flatMap fun x => (allC ks n).map (x :: ·)).flatMap fun r => ks.map fun k => r ++ [k]
    rw [allC_snoc ks n, List.flatMap_assoc]
    congr 1
    funext x
    rw [List.map_flatMap, List.flatMap_map]
    congr 1
    funext r
    rw [List.map_map]
    rfl
theorem allC_mem {ks : List Str} : ∀ {n : Nat} {its : List Str}, its ∈ allC ks n → its.length = n ∧ ∀ x ∈ its, x ∈ ks
  | 0, its, h => by
    cases List.mem_singleton.mp h
    exact ⟨rfl, fun x hx => by cases hx⟩
  | n + 1, its, h => by
    obtain ⟨x, hx, h⟩ := List.mem_flatMap.mp h
    obtain ⟨t, ht, rfl⟩ := List.mem_map.mp h
    obtain ⟨h1, h2⟩ := allC_mem ht
    refine ⟨congrArg (· + 1) h1, fun y hy => ?_⟩
    rcases List.mem_cons.mp hy with e | e
    · rw [e]; exact hx
    · exact h2 y e
theorem flat_len {α β : Type} {F : α → List β} {m : Nat} : ∀ {o : List α}, (∀ x ∈ o, (F x).length = m) → (o.flatMap F).length = o.length * m
  | [], _ => by rw [List.flatMap_nil]; show 0 = 0 * m; omega
  | x :: t, h => by
    rw [List.flatMap_cons, List.length_append, h x (List.mem_cons_self ..), flat_len fun y hy => h y (List.mem_cons_of_mem _ hy), List.length_cons, Nat.succ_mul, Nat.add_comm]
theorem flat_at {α β : Type} {F : α → List β} {m : Nat} : ∀ {o : List α} {j r : Nat} {x : α}, (∀ x ∈ o, (F x).length = m) → o[j]? = some x → r < m → (o.flatMap F)[j * m + r]? = (F x)[r]?
  | [], j, r, x, _, h, _ => by cases j <;> cases h
  | y :: t, 0, r, x, h, e, hr => by
    cases e
    rw [List.flatMap_cons, Nat.zero_mul, Nat.zero_add, List.getElem?_append_left (by rw [h y (List.mem_cons_self ..)]; exact hr)]
  | y :: t, j + 1, r, x, h, e, hr => by
    have hy := h y (List.mem_cons_self ..)
    rw [List.flatMap_cons, List.getElem?_append_right (by rw [hy, Nat.succ_mul]; omega), hy, Nat.succ_mul]
    rw [show j * m + m + r - m = j * m + r by omega]
    exact flat_at (fun z hz => h z (List.mem_cons_of_mem _ hz)) e hr
theorem allC_len (ks : List Str) : ∀ n, (allC ks n).length = ks.length ^ n
  | 0 => rfl
  | n + 1 => by
    show (ks.flatMap fun x => (allC ks n).map (x :: ·)).length = _
    rw [flat_len (m := ks.length ^ n) fun x _ => by rw [List.length_map, allC_len ks n], Nat.pow_succ, Nat.mul_comm]
def okB (w : Str) (c : Nat) (e : En) (x : Str) : Bool := decide (e.2 = staysI w c x) && (match e.1 with | none => true | some k => decide (k = x))
theorem okB_iff {w : Str} {c : Nat} {e : En} {x : Str} : okB w c e x = true ↔ e.2 = staysI w c x ∧ KnE e x := by
  unfold okB KnE
  rw [Bool.and_eq_true, decide_eq_true_iff]
  refine and_congr_right fun _ => ?_
  cases e.1 with
  | none => exact ⟨(fun _ y hy => nomatch hy), (fun _ => rfl)⟩
  | some k => exact ⟨(fun h y hy => (Option.some.inj hy) ▸ (of_decide_eq_true h)), (fun h => decide_eq_true (h k rfl))⟩
def fitG (ks : List Str) : Str → Nat → List En → List (List Str)
  | _, _, [] => [[]]
  | w, c, e :: t => ks.flatMap fun x => if okB w c e x = true then (fitG ks (nxtW w c x) (nxtC w c x) t).map (x :: ·) else []
theorem filt_fit (ks : List Str) : ∀ (es : List En) (w : Str) (c : Nat) (p : List Str → Bool), (∀ its, its.length = es.length → (p its = true ↔ FitE w c es its)) → (allC ks es.length).filter p = fitG ks w c es
  | [], w, c, p, h => by
    show ([[]] : List (List Str)).filter p = [[]]
    rw [List.filter_cons, if_pos ((h [] rfl).mpr trivial)]
    rfl
  | e :: t, w, c, p, h => by
    show (ks.flatMap fun x => (allC ks t.length).map (x :: ·)).filter p = _
    rw [List.filter_flatMap, fitG]
    congr 1
    funext x
    rw [List.filter_map]
    by_cases c1 : okB w c e x = true
    · rw [if_pos c1]
      obtain ⟨o1, o2⟩ := okB_iff.mp c1
      rw [filt_fit ks t (nxtW w c x) (nxtC w c x) (p ∘ (x :: ·)) fun its hl => (h (x :: its) (congrArg (· + 1) hl)).trans ⟨fun z => z.2.2, fun z => ⟨o1, o2, z⟩⟩]
    · rw [if_neg c1]
      refine List.map_eq_nil_iff.mpr (List.filter_eq_nil_iff.mpr fun its hm z => c1 ?_)
      obtain ⟨z1, z2, _⟩ := (h (x :: its) (congrArg (· + 1) (allC_mem hm).1)).mp z
      exact okB_iff.mpr ⟨z1, z2⟩
/-! ### epoch by epoch -/
def cart : List (List Str) → List (List Str)
  | [] => [[]]
  | o :: r => o.flatMap fun x => (cart r).map (x :: ·)
def crossL (A B : List (List Str)) : List (List Str) := A.flatMap fun a => B.map (a ++ ·)
theorem cross_flat (o : List Str) (f : Str → List (List Str)) (B : List (List Str)) : crossL (o.flatMap f) B = o.flatMap fun x => crossL (f x) B := List.flatMap_assoc ..
theorem cross_map (x : Str) (A B : List (List Str)) : crossL (A.map (x :: ·)) B = (crossL A B).map (x :: ·) := by
  unfold crossL
  rw [List.flatMap_map, List.map_flatMap]
  congr 1
  funext a
  rw [List.map_map]
  rfl
theorem cross_one (B : List (List Str)) : crossL [[]] B = B := by
  unfold crossL
  rw [List.flatMap_cons, List.flatMap_nil, List.append_nil]
  exact List.map_id' B
def genP (ks : List Str) (ep : List En) (w : Str) : List (List Str) := (cart (ep.tail.map (optL ks w))).map (w :: ·)
def genE (ks : List Str) : List (List En) → List (List Str)
  | [] => [[]]
  | ep :: r => (optW ks ep).flatMap fun w => crossL (genP ks ep w) (genE ks r)
/-- an entry says nothing wrong when w waits -/
def conB (w : Str) (e : En) : Bool := match e.1 with | none => true | some k => if e.2 = true then decide (k = w) else !decide (k = w)
theorem kn_mem {ep : List En} {b : Bool} {k : Str} : k ∈ knE ep b ↔ ∃ e ∈ ep, e.2 = b ∧ e.1 = some k := by
  unfold knE
  rw [List.mem_filterMap]
  refine ⟨fun ⟨e, he, h⟩ => ?_, fun ⟨e, he, h1, h2⟩ => ⟨e, he, by rw [if_pos h1]; exact h2⟩⟩
  by_cases c : e.2 = b
  · rw [if_pos c] at h
    exact ⟨e, he, c, h⟩
  · rw [if_neg c] at h
    cases h
theorem pW_all (ep : List En) (x : Str) : pW ep x = ep.all (conB x) := by
  rw [Bool.eq_iff_iff, List.all_eq_true]
  unfold pW
  rw [Bool.and_eq_true, Bool.not_eq_true', decide_eq_false_iff_not, List.all_eq_true]
  constructor
  · rintro ⟨h1, h2⟩ e he
    unfold conB
    cases h : e.1 with
    | none => rfl
    | some k =>
      show (if e.2 = true then decide (k = x) else !decide (k = x)) = true
      by_cases c : e.2 = true
      · rw [if_pos c]
        have := of_decide_eq_true (h2 k (kn_mem.mpr ⟨e, he, c, h⟩))
        exact decide_eq_true this.symm
      · rw [if_neg c]
        have : ¬ k = x := fun z => h1 (kn_mem.mpr ⟨e, he, by simpa using c, by rw [h, z]⟩)
        rw [decide_eq_false this]
        rfl
  · intro h
    refine ⟨fun z => ?_, fun k hk => ?_⟩
    · obtain ⟨e, he, e1, e2⟩ := kn_mem.mp z
      have := h e he
      unfold conB at this
      rw [e2, e1] at this
      simp at this
    · obtain ⟨e, he, e1, e2⟩ := kn_mem.mp hk
      have := h e he
      unfold conB at this
      rw [e2, e1] at this
      have : k = x := by simpa using this
      exact decide_eq_true this.symm
theorem flat_if {f : Str → List (List Str)} {b : Str → Bool} : ∀ ks : List Str, (ks.flatMap fun x => if b x = true then f x else []) = (ks.filter b).flatMap f
  | [] => rfl
  | x :: t => by
    rw [List.flatMap_cons, flat_if t]
    cases h : b x with
    | true => rw [if_pos rfl, List.filter_cons, if_pos h, List.flatMap_cons]
    | false => rw [if_neg (by decide), List.filter_cons, if_neg (by rw [h]; decide), List.nil_append]
theorem filt_single {w : Str} {p : Str → Bool} : ∀ {ks : List Str}, ks.Nodup → w ∈ ks → (∀ k ∈ ks, p k = decide (k = w)) → ks.filter p = [w]
  | x :: t, nd, h, hp => by
    have hx := hp x (List.mem_cons_self ..)
    by_cases e : x = w
    · subst e
      rw [List.filter_cons, if_pos (by rw [hx]; exact decide_eq_true rfl)]
      have : t.filter p = [] := List.filter_eq_nil_iff.mpr fun k hk z => by
        rw [hp k (List.mem_cons_of_mem _ hk)] at z
        have := of_decide_eq_true z
        subst this
        exact (List.nodup_cons.mp nd).1 hk
      rw [this]
    · rw [List.filter_cons, if_neg (by rw [hx, decide_eq_false e]; decide)]
      exact filt_single (List.nodup_cons.mp nd).2 ((List.mem_cons.mp h).resolve_left fun z => e z.symm) fun k hk => hp k (List.mem_cons_of_mem _ hk)
theorem stays_pos {w x : Str} {c : Nat} (c0 : c ≠ 0) : staysI w c x = decide (x = w) := by
  unfold staysI
  rw [decide_eq_false c0, Bool.false_or]
theorem filt_opt {ks : List Str} {w : Str} {e : En} {c : Nat} (nd : ks.Nodup) (hw : w ∈ ks) (c0 : c ≠ 0) (ik : ∀ k, e.1 = some k → k ∈ ks) : ks.filter (okB w c e) = if conB w e = true then optL ks w e else [] := by
  obtain ⟨ke, ac⟩ := e
  have ok : ∀ x, okB w c (ke, ac) x = (decide (ac = decide (x = w)) && (okB w c (ke, staysI w c x) x)) := fun x => by
    unfold okB
    rw [stays_pos c0]
    simp
  have ok1 : ∀ x b, okB w c (none, b) x = decide (b = decide (x = w)) := fun x b => by
    unfold okB
    rw [stays_pos c0]
    exact Bool.and_true _
  have ok2 : ∀ x b k, okB w c (some k, b) x = (decide (b = decide (x = w)) && decide (k = x)) := fun x b k => by
    unfold okB
    rw [stays_pos c0]
  have cn : ∀ b, conB w (none, b) = true := fun b => rfl
  have ct : ∀ k, conB w (some k, true) = decide (k = w) := fun k => rfl
  have cf : ∀ k, conB w (some k, false) = !decide (k = w) := fun k => rfl
  clear ok
  cases ac with
  | true =>
    cases ke with
    | none =>
      rw [if_pos (cn _)]
      exact filt_single nd hw fun k _ => by rw [ok1]; cases h : decide (k = w) <;> rfl
    | some k0 =>
      by_cases e1 : k0 = w
      · subst e1
        have cc : conB k0 (some k0, true) = true := decide_eq_true rfl
        rw [if_pos cc]
        refine filt_single nd hw fun k _ => ?_
        rw [ok2]
        by_cases e2 : k = k0
        · subst e2
          rw [decide_eq_true rfl]
          rfl
        · rw [decide_eq_false e2]
          rfl
      · rw [if_neg (by rw [ct, decide_eq_false e1]; decide)]
        refine List.filter_eq_nil_iff.mpr fun x _ z => ?_
        rw [ok2] at z
        simp only [Bool.and_eq_true, decide_eq_true_eq] at z
        obtain ⟨z1, z2⟩ := z
        have := of_decide_eq_true z1.symm
        exact e1 (z2.trans this)
  | false =>
    cases ke with
    | none =>
      rw [if_pos (cn _)]
      show ks.filter _ = ks.filter fun k => !decide (k = w)
      congr 1
      funext k
      rw [ok1]
      cases h : decide (k = w) <;> rfl
    | some k0 =>
      have hk0 := ik k0 rfl
      by_cases e1 : k0 = w
      · rw [if_neg (by rw [cf, decide_eq_true e1]; decide)]
        refine List.filter_eq_nil_iff.mpr fun x _ z => ?_
        rw [ok2] at z
        simp only [Bool.and_eq_true, decide_eq_true_eq] at z
        obtain ⟨z1, z2⟩ := z
        exact of_decide_eq_false z1.symm (z2.symm.trans e1)
      · rw [if_pos (by rw [cf, decide_eq_false e1]; rfl)]
        refine filt_single nd hk0 fun k _ => ?_
        rw [ok2]
        by_cases e2 : k = k0
        · subst e2
          rw [decide_eq_false e1, decide_eq_true rfl]
          rfl
        · rw [decide_eq_false e2, show decide (k0 = k) = false from decide_eq_false fun z => e2 z.symm, Bool.and_false]
theorem flat_cong {f g : Str → List (List Str)} : ∀ {ks : List Str}, (∀ x ∈ ks, f x = g x) → ks.flatMap f = ks.flatMap g
  | [], _ => rfl
  | x :: t, h => by rw [List.flatMap_cons, List.flatMap_cons, h x (List.mem_cons_self ..), flat_cong fun y hy => h y (List.mem_cons_of_mem _ hy)]
theorem flat_nil : ∀ l : List Str, l.flatMap (fun _ => ([] : List (List Str))) = []
  | [] => rfl
  | x :: t => by rw [List.flatMap_cons, flat_nil t]; rfl
theorem fit_gen {ks : List Str} (nd : ks.Nodup) : ∀ (es : List En) (w : Str) (c : Nat), (c ≠ 0 → w ∈ ks) → InK ks es → fitG ks w c es = if (splE c es).1.all (conB w) = true then crossL (cart ((splE c es).1.map (optL ks w))) (genE ks (splE c es).2) else []
  | [], w, c, _, _ => rfl
  | e :: t, w, c, hw, ik => by
    have ikt : InK ks t := fun x hx => ik x (List.mem_cons_of_mem _ hx)
    rw [fitG, splE]
    by_cases c0 : c = 0
    · subst c0
      rw [if_pos rfl]
      show _ = if true = true then crossL [[]] (genE ks ((e :: (splE (nxtE 0 e) t).1) :: (splE (nxtE 0 e) t).2)) else []
      rw [if_pos rfl, cross_one, genE, optW_eq]
      by_cases a : e.2 = true
      · have en : nxtE 0 e = 1 := by unfold nxtE; rw [if_pos a]
        rw [if_pos a, en, ← flat_if]
        refine flat_cong fun x hx => ?_
        have e1 : nxtW w 0 x = x := rfl
        have e2 : nxtC w 0 x = 1 := rfl
        have e3 : okB w 0 e x = conB x e := by
          unfold okB conB
          rw [a]
          cases e.1 <;> rfl
        rw [e1, e2, e3, fit_gen nd t x 1 (fun _ => hx) ikt, pW_all, List.all_cons]
        cases h1 : conB x e with
        | false => rfl
        | true =>
          rw [if_pos rfl, Bool.true_and]
          cases h2 : (splE 1 t).1.all (conB x) with
          | false => rfl
          | true =>
            rw [if_pos rfl, if_pos rfl]
            show _ = crossL (genP ks (e :: (splE 1 t).1) x) _
            unfold genP
            rw [cross_map]
            rfl
      · rw [if_neg a, List.flatMap_nil]
        have : ∀ x ∈ ks, (if okB w 0 e x = true then (fitG ks (nxtW w 0 x) (nxtC w 0 x) t).map (x :: ·) else []) = [] := fun x _ => by
          refine if_neg fun z => a ?_
          exact (okB_iff.mp z).1
        rw [flat_cong this, flat_nil]
    · have hwk := hw c0
      rw [if_neg c0]
      have h1 : ∀ x ∈ ks, (if okB w c e x = true then (fitG ks (nxtW w c x) (nxtC w c x) t).map (x :: ·) else []) = if okB w c e x = true then (fitG ks w (nxtE c e) t).map (x :: ·) else [] := fun x _ => by
        by_cases z : okB w c e x = true
        · rw [if_pos z, if_pos z]
          have st := (okB_iff.mp z).1
          have e1 : nxtC w c x = nxtE c e := by
            unfold nxtC nxtE
            rw [st]
          have e2 : nxtW w c x = w := by
            unfold nxtW
            split
            · next q =>
              rw [stays_pos c0] at q
              exact of_decide_eq_true q
            · rfl
          rw [e1, e2]
        · rw [if_neg z, if_neg z]
      rw [flat_cong h1, flat_if, filt_opt nd hwk c0 fun k hk => ik e (List.mem_cons_self ..) k hk, fit_gen nd t w (nxtE c e) (fun _ => hwk) ikt]
      show _ = if (e :: (splE (nxtE c e) t).1).all (conB w) = true then crossL (cart ((e :: (splE (nxtE c e) t).1).map (optL ks w))) (genE ks (splE (nxtE c e) t).2) else []
      rw [List.all_cons]
      cases h1 : conB w e with
      | false => rfl
      | true =>
        rw [if_pos rfl, Bool.true_and]
        cases h2 : (splE (nxtE c e) t).1.all (conB w) with
        | false =>
          rw [if_neg (by decide), if_neg (by decide)]
          show (optL ks w e).flatMap (fun x => []) = []
          exact flat_nil _
        | true =>
          rw [if_pos rfl, if_pos rfl, List.map_cons]
          show _ = crossL ((optL ks w e).flatMap fun x => (cart ((splE (nxtE c e) t).1.map (optL ks w))).map (x :: ·)) _
          rw [cross_flat]
          congr 1
          funext x
          rw [cross_map]
theorem due_gen {ks : List Str} {es : List En} (nd : ks.Nodup) (ik : InK ks es) {p : List Str → Bool} (h : ∀ its, its.length = es.length → (p its = true ↔ FitE "" 0 es its)) : (allC ks es.length).filter p = genE ks (epsE es) := by
  rw [filt_fit ks es "" 0 p h, fit_gen nd es "" 0 (fun z => absurd rfl z) ik, spl_zero]
  show (if true = true then crossL [[]] (genE ks (epsE es)) else []) = _
  rw [if_pos rfl, cross_one]
end UP

set_option Elab.async false
set_option linter.all false
set_option maxRecDepth 100000
set_option maxHeartbeats 4000000
set_option pp.maxSteps 400
namespace UP
open PySem PySem.Spec PyProof.Rows L2
/-! ### the numbers of the lists that fit -/
theorem paired_split {α β : Type} {F : α → β → Prop} : ∀ {a b : List β} {l : List α}, Paired F l (a ++ b) → ∃ la lb, l = la ++ lb ∧ Paired F la a ∧ Paired F lb b
  | [], b, l, h => ⟨[], l, rfl, .nil, h⟩
  | x :: t, b, _, .cons h p => by
    obtain ⟨la, lb, rfl, h1, h2⟩ := paired_split p
    exact ⟨_ :: la, lb, rfl, .cons h h1, h2⟩
def valD : List Nat → List Nat → Nat
  | n :: ns, d :: ds => d * prodN ns + valD ns ds
  | _, _ => 0
theorem valD_lt : ∀ {ns ds : List Nat}, Paired (· < ·) ds ns → valD ns ds < prodN ns
  | _, _, .nil => by decide
  | n :: ns, d :: ds, .cons h p => by
    have ih := valD_lt p
    rw [prod_cons, valD]
    have h1 : (d + 1) * prodN ns ≤ n * prodN ns := Nat.mul_le_mul_right _ h
    rw [Nat.succ_mul] at h1
    omega
theorem valD_app : ∀ {ns ds : List Nat} (ms es : List Nat), Paired (· < ·) ds ns → valD (ns ++ ms) (ds ++ es) = valD ns ds * prodN ms + valD ms es
  | _, _, ms, es, .nil => by show valD ms es = 0 * _ + _; omega
  | n :: ns, d :: ds, ms, es, .cons h p => by
    rw [List.cons_append, List.cons_append, valD, valD, valD_app ms es p, prod_app, Nat.add_mul, Nat.mul_assoc, Nat.add_assoc]
def digN : List Nat → Nat → List Nat
  | [], _ => []
  | n :: ns, i => i / prodN ns % n :: digN ns i
theorem digN_ok : ∀ {ns : List Nat} (i : Nat), 0 < prodN ns → Paired (· < ·) (digN ns i) ns
  | [], _, _ => .nil
  | n :: ns, i, h => by
    rw [prod_cons] at h
    exact .cons (Nat.mod_lt _ (Nat.pos_of_mul_pos_right h)) (digN_ok i (Nat.pos_of_mul_pos_left h))
theorem valD_dig : ∀ (ns : List Nat) (i : Nat), valD ns (digN ns i) = i % prodN ns
  | [], i => (Nat.mod_one i).symm
  | n :: ns, i => by
    rw [digN, valD, valD_dig ns i, prod_cons, Nat.mul_comm n, Nat.mod_mul, Nat.mul_comm (prodN ns)]
    omega
/-! ### the list of a number -/
def pickD : List (List Str) → List Nat → List Str
  | o :: r, d :: ds => o.getD d "" :: pickD r ds
  | _, _ => []
theorem pick_len : ∀ {os : List (List Str)} {ds : List Nat}, ds.length = os.length → (pickD os ds).length = os.length
  | [], [], _ => rfl
  | o :: r, d :: ds, h => congrArg (· + 1) (pick_len (Nat.succ.inj h))
def nthD (ks : List Str) : List (List En) → List Nat → List Str
  | [], _ => []
  | ep :: r, ds => ((optW ks ep).getD (ds.headD 0) "" :: pickD (ep.tail.map (optL ks ((optW ks ep).getD (ds.headD 0) ""))) (ds.tail.take ep.tail.length)) ++ nthD ks r (ds.drop ep.length)
theorem cart_len : ∀ os : List (List Str), (cart os).length = prodN (os.map (·.length))
  | [] => rfl
  | o :: r => by
    rw [cart, flat_len (m := prodN (r.map (·.length))) fun x _ => by rw [List.length_map, cart_len r], List.map_cons, prod_cons]
theorem cart_at : ∀ {os : List (List Str)} {ds : List Nat}, Paired (· < ·) ds (os.map (·.length)) → (cart os)[valD (os.map (·.length)) ds]? = some (pickD os ds)
  | [], _, h => by cases h; rfl
  | o :: r, d :: ds, .cons h p => by
    have lt := valD_lt p
    rw [List.map_cons, valD, cart]
    rw [flat_at (m := prodN (r.map (·.length))) (x := o[d]) (fun x _ => by rw [List.length_map, cart_len r]) (List.getElem?_eq_getElem h) lt, List.getElem?_map, cart_at p]
    show some (o[d] :: pickD r ds) = some (o.getD d "" :: pickD r ds)
    rw [List.getD_eq_getElem?_getD, List.getElem?_eq_getElem h]
    rfl
theorem cross_len (A B : List (List Str)) : (crossL A B).length = A.length * B.length := flat_len fun x _ => List.length_map ..
theorem cross_at {A B : List (List Str)} {i j : Nat} {a b : List Str} (ha : A[i]? = some a) (hb : B[j]? = some b) : (crossL A B)[i * B.length + j]? = some (a ++ b) := by
  unfold crossL
  have lj := (List.getElem?_eq_some_iff.mp hb).1
  rw [flat_at (m := B.length) (x := a) (fun x _ => List.length_map ..) ha lj, List.getElem?_map, hb]
  rfl
theorem filt_rest {w : Str} : ∀ {ks : List Str}, ks.Nodup → w ∈ ks → (ks.filter fun k => !decide (k = w)).length + 1 = ks.length
  | x :: t, nd, h => by
    have hn := (List.nodup_cons.mp nd)
    by_cases e : x = w
    · subst e
      rw [List.filter_cons, if_neg (by rw [decide_eq_true rfl]; decide), List.filter_eq_self.mpr fun k hk => ?_]
      · rfl
      · have : ¬ k = x := fun z => hn.1 (z ▸ hk)
        rw [decide_eq_false this]
        rfl
    · rw [List.filter_cons, if_pos (by rw [decide_eq_false e]; rfl), List.length_cons, filt_rest hn.2 ((List.mem_cons.mp h).resolve_left fun z => e z.symm)]
      rfl
theorem head_mem {ks : List Str} (l0 : 0 < ks.length) : ks.headD "" ∈ ks := by
  cases ks with
  | nil => exact absurd l0 (by decide)
  | cons k r => exact List.mem_cons_self ..
theorem lenL {ks : List Str} {w : Str} {e : En} (nd : ks.Nodup) (hw : w ∈ ks) : (optL ks w e).length = (optL ks (ks.headD "") e).length := by
  unfold optL
  split
  · rfl
  · split
    · have h1 := filt_rest nd hw
      have h2 := filt_rest nd (head_mem (List.length_pos_of_mem hw))
      omega
    · rfl
theorem lens_eq {ks : List Str} {w : Str} (nd : ks.Nodup) (hw : w ∈ ks) (t : List En) : (t.map (optL ks w)).map (·.length) = t.map fun e => (optL ks (ks.headD "") e).length := by
  rw [List.map_map]
  exact List.map_congr_left fun e _ => lenL nd hw
theorem genP_len {ks : List Str} {w : Str} (nd : ks.Nodup) (hw : w ∈ ks) (ep : List En) : (genP ks ep w).length = prodN (ep.tail.map fun e => (optL ks (ks.headD "") e).length) := by
  unfold genP
  rw [List.length_map, cart_len, lens_eq nd hw]
theorem gen_len {ks : List Str} (nd : ks.Nodup) : ∀ L : List (List En), (genE ks L).length = prodN (L.flatMap (numP ks))
  | [] => rfl
  | ep :: r => by
    rw [genE, flat_len (m := prodN (ep.tail.map fun e => (optL ks (ks.headD "") e).length) * prodN (r.flatMap (numP ks))) fun w hw => ?_, List.flatMap_cons, prod_app]
    · unfold numP
      rw [prod_cons, Nat.mul_assoc]
    · rw [cross_len, genP_len nd (optW_in w hw), gen_len nd r]
theorem cnt_gen {ks : List Str} (nd : ks.Nodup) (es : List En) : (genE ks (epsE es)).length = cntE ks es := gen_len nd _
theorem numP_eq (ks : List Str) (ep : List En) : numP ks ep = (optW ks ep).length :: ep.tail.map fun e => (optL ks (ks.headD "") e).length := rfl
theorem nthD_cons {ks : List Str} {ep : List En} {r : List (List En)} {d : Nat} {dt db : List Nat} (ltl : dt.length = ep.tail.length) (lep : ep.length = ep.tail.length + 1) : nthD ks (ep :: r) (d :: dt ++ db) = ((optW ks ep).getD d "" :: pickD (ep.tail.map (optL ks ((optW ks ep).getD d ""))) dt) ++ nthD ks r db := by
  have h1 : (d :: dt ++ db).headD 0 = d := rfl
  have h2 : (d :: dt ++ db).tail.take ep.tail.length = dt := by
    show (dt ++ db).take _ = dt
    rw [← ltl, List.take_left']
    rfl
  have h3 : (d :: dt ++ db).drop ep.length = db := by
    rw [lep]
    show (dt ++ db).drop ep.tail.length = db
    rw [← ltl, List.drop_left']
    rfl
  rw [nthD, h1, h2, h3]
theorem gen_at {ks : List Str} (nd : ks.Nodup) : ∀ {L : List (List En)} {ds : List Nat}, (∀ ep ∈ L, ep ≠ []) → Paired (· < ·) ds (L.flatMap (numP ks)) → (genE ks L)[valD (L.flatMap (numP ks)) ds]? = some (nthD ks L ds)
  | [], ds, _, h => by
    cases h
    rfl
  | ep :: r, ds, ne, h => by
    rw [List.flatMap_cons] at h ⊢
    obtain ⟨da, db, rfl, ha, hb⟩ := paired_split h
    have ih := gen_at nd (fun x hx => ne x (List.mem_cons_of_mem _ hx)) hb
    have lb := valD_lt hb
    have nep : ep ≠ [] := ne ep (List.mem_cons_self ..)
    have lda := Paired.len ha
    rw [numP_len nep] at lda
    rw [valD_app _ _ ha]
    rw [numP_eq ks ep] at ha ⊢
    cases ha with
    | @cons d _ dt _ hd ht =>
    have hwm : (optW ks ep)[d] ∈ optW ks ep := List.getElem_mem hd
    have hwk := optW_in _ hwm
    have eW : (optW ks ep).getD d "" = (optW ks ep)[d] := by
      rw [List.getD_eq_getElem?_getD, List.getElem?_eq_getElem hd]
      rfl
    have ltl : dt.length = ep.tail.length := by
      have := Paired.len ht
      rw [List.length_map] at this
      exact this
    have lep : ep.length = ep.tail.length + 1 := by
      rw [List.length_tail]
      have := List.length_pos_iff.mpr nep
      omega
    have hP : (genP ks ep (optW ks ep)[d])[valD (ep.tail.map fun e => (optL ks (ks.headD "") e).length) dt]? = some ((optW ks ep)[d] :: pickD (ep.tail.map (optL ks (optW ks ep)[d])) dt) := by
      unfold genP
      rw [List.getElem?_map, ← lens_eq nd hwk, cart_at (by rw [lens_eq nd hwk]; exact ht)]
      rfl
    have hX := cross_at hP ih
    have ltx : valD (ep.tail.map fun e => (optL ks (ks.headD "") e).length) dt * prodN (r.flatMap (numP ks)) + valD (r.flatMap (numP ks)) db < prodN (ep.tail.map fun e => (optL ks (ks.headD "") e).length) * prodN (r.flatMap (numP ks)) := by
      have h1 := valD_lt ht
      have h2 : (valD (ep.tail.map fun e => (optL ks (ks.headD "") e).length) dt + 1) * prodN (r.flatMap (numP ks)) ≤ _ := Nat.mul_le_mul_right (prodN (r.flatMap (numP ks))) h1
      rw [Nat.succ_mul] at h2
      omega
    rw [gen_len nd r] at hX
    rw [genE, valD, Nat.add_mul, Nat.mul_assoc, Nat.add_assoc, flat_at (m := prodN (ep.tail.map fun e => (optL ks (ks.headD "") e).length) * prodN (r.flatMap (numP ks))) (x := (optW ks ep)[d]) (fun w hw => by rw [cross_len, genP_len nd (optW_in w hw), gen_len nd r]) (List.getElem?_eq_getElem hd) ltx, hX, nthD_cons ltl lep, eW]
theorem gen_num {ks : List Str} (nd : ks.Nodup) {es : List En} {i : Nat} (h : i < cntE ks es) : (genE ks (epsE es))[i]? = some (nthD ks (epsE es) (digN (numE ks es) i)) := by
  have := gen_at nd (fun ep he => eps_ne ep he) (digN_ok (ns := numE ks es) i (Nat.lt_of_le_of_lt (Nat.zero_le _) h))
  rw [show ((epsE es).flatMap (numP ks)) = numE ks es from rfl, valD_dig, Nat.mod_eq_of_lt (show i < prodN (numE ks es) from h)] at this
  exact this
end UP

set_option Elab.async false
set_option linter.all false
set_option maxRecDepth 100000
set_option maxHeartbeats 4000000
set_option pp.maxSteps 400
namespace UP
open PySem PySem.Spec PyProof.Rows L2
/-! ### the number of a list -/
theorem fold_val : ∀ (Z : List (Str × List Str)) (a : Nat), Z.foldl stepI a = a * prodN (Z.map (·.2.length)) + valD (Z.map (·.2.length)) (Z.map fun p => p.2.idxOf p.1)
  | [], a => by show a = a * 1 + 0; omega
  | p :: t, a => by
    rw [List.foldl_cons, fold_val t, List.map_cons, List.map_cons, prod_cons, valD]
    unfold stepI
    rw [Nat.add_mul, Nat.mul_assoc, Nat.add_assoc]
theorem idx_at {o : List Str} (nd : o.Nodup) {d : Nat} (h : d < o.length) : o.idxOf (o.getD d "") = d := by
  rw [List.getD_eq_getElem?_getD, List.getElem?_eq_getElem h]
  exact List.Nodup.idxOf_getElem nd d h
theorem pick_idx : ∀ {os : List (List Str)} {ds : List Nat}, (∀ o ∈ os, o.Nodup) → Paired (· < ·) ds (os.map (·.length)) → ((pickD os ds).zip os).map (fun p => p.2.idxOf p.1) = ds ∧ ((pickD os ds).zip os).map (·.2.length) = os.map (·.length)
  | [], _, _, h => by cases h; exact ⟨rfl, rfl⟩
  | o :: r, d :: ds, nd, .cons h p => by
    obtain ⟨h1, h2⟩ := pick_idx (fun x hx => nd x (List.mem_cons_of_mem _ hx)) p
    refine ⟨?_, ?_⟩
    · show o.idxOf (o.getD d "") :: ((pickD r ds).zip r).map _ = _
      rw [h1, idx_at (nd o (List.mem_cons_self ..)) h]
    · show o.length :: ((pickD r ds).zip r).map _ = _
      rw [h2]
      rfl
theorem optW_nd {ks : List Str} (nd : ks.Nodup) (ep : List En) : (optW ks ep).Nodup := by
  cases ep with
  | nil => exact List.nodup_nil
  | cons e r =>
    rw [optW_eq]
    split
    · exact nd.sublist List.filter_sublist
    · exact List.nodup_nil
theorem optL_nd {ks : List Str} (nd : ks.Nodup) (w : Str) (e : En) : (optL ks w e).Nodup := by
  unfold optL
  split
  · exact List.nodup_cons.mpr ⟨(fun h => by cases h), List.nodup_nil⟩
  · split
    · exact nd.sublist List.filter_sublist
    · exact List.nodup_cons.mpr ⟨(fun h => by cases h), List.nodup_nil⟩
theorem nth_len {ks : List Str} : ∀ {L : List (List En)} {ds : List Nat}, (∀ ep ∈ L, ep ≠ []) → ds.length = L.flatten.length → (nthD ks L ds).length = L.flatten.length
  | [], ds, _, _ => rfl
  | ep :: r, ds, ne, h => by
    have nep := List.length_pos_iff.mpr (ne ep (List.mem_cons_self ..))
    rw [List.flatten_cons, List.length_append] at h ⊢
    have ltl : ep.tail.length + 1 = ep.length := by rw [List.length_tail]; omega
    rw [nthD, List.length_append, nth_len (fun x hx => ne x (List.mem_cons_of_mem _ hx)) (by rw [List.length_drop]; omega), List.length_cons, pick_len (by simp only [List.length_take, List.length_tail, List.length_map]; omega), List.length_map, ltl]
theorem nth_idx {ks : List Str} (nd : ks.Nodup) : ∀ {L : List (List En)} {ds : List Nat}, (∀ ep ∈ L, ep ≠ []) → Paired (· < ·) ds (L.flatMap (numP ks)) → ((nthD ks L ds).zip (optE ks L (nthD ks L ds))).map (fun p => p.2.idxOf p.1) = ds ∧ ((nthD ks L ds).zip (optE ks L (nthD ks L ds))).map (·.2.length) = L.flatMap (numP ks)
  | [], ds, _, h => by
    cases h
    exact ⟨rfl, rfl⟩
  | ep :: r, ds, ne, h => by
    rw [List.flatMap_cons] at h ⊢
    obtain ⟨da, db, rfl, ha, hb⟩ := paired_split h
    obtain ⟨ih1, ih2⟩ := nth_idx nd (fun x hx => ne x (List.mem_cons_of_mem _ hx)) hb
    have nep : ep ≠ [] := ne ep (List.mem_cons_self ..)
    have lda := Paired.len ha
    rw [numP_len nep] at lda
    rw [numP_eq ks ep] at ha ⊢
    cases ha with
    | @cons d _ dt _ hd ht =>
    have eW : (optW ks ep).getD d "" ∈ optW ks ep := by
      rw [List.getD_eq_getElem?_getD, List.getElem?_eq_getElem hd]
      exact List.getElem_mem hd
    have hwk := optW_in _ eW
    have ei := idx_at (optW_nd nd ep) hd
    have ltl : dt.length = ep.tail.length := by
      have := Paired.len ht
      rw [List.length_map] at this
      exact this
    have lep : ep.length = ep.tail.length + 1 := by
      rw [List.length_tail]
      have := List.length_pos_iff.mpr nep
      omega
    have en : nthD ks (ep :: r) (d :: dt ++ db) = ((optW ks ep).getD d "" :: pickD (ep.tail.map (optL ks ((optW ks ep).getD d ""))) dt) ++ nthD ks r db := nthD_cons ltl lep
    rw [en]
    generalize (optW ks ep).getD d "" = wd at *
    have lp : (pickD (ep.tail.map (optL ks wd)) dt).length = ep.tail.length := by
      rw [pick_len (by rw [List.length_map]; exact ltl), List.length_map]
    obtain ⟨p1, p2⟩ := pick_idx (os := ep.tail.map (optL ks wd)) (ds := dt) (fun o ho => by
      obtain ⟨e, _, rfl⟩ := List.mem_map.mp ho
      exact optL_nd nd wd e) (by rw [lens_eq nd hwk]; exact ht)
    rw [lens_eq nd hwk] at p2
    have eo : optE ks (ep :: r) ((wd :: pickD (ep.tail.map (optL ks wd)) dt) ++ nthD ks r db) = (optW ks ep :: ep.tail.map (optL ks wd)) ++ optE ks r (nthD ks r db) := by
      rw [optE]
      congr 1
      rw [List.drop_append_of_le_length (by rw [List.length_cons, lp]; omega), List.drop_of_length_le (by rw [List.length_cons, lp]; omega), List.nil_append]
    rw [eo, List.zip_append (by rw [List.length_cons, List.length_cons, lp, List.length_map]), List.zip_cons_cons, List.map_append, List.map_append, List.map_cons, List.map_cons, ih1, ih2, p1, p2]
    exact ⟨by show (List.idxOf wd (optW ks ep)) :: _ ++ _ = _; rw [ei], rfl⟩
/-- the number of a list that fits is its place -/
theorem nth_ix {ks : List Str} (nd : ks.Nodup) {es : List En} {i : Nat} (h : i < cntE ks es) : ixZ ((nthD ks (epsE es) (digN (numE ks es) i)).zip (optE ks (epsE es) (nthD ks (epsE es) (digN (numE ks es) i)))) = i := by
  obtain ⟨h1, h2⟩ := nth_idx nd (L := epsE es) (fun ep he => eps_ne ep he) (digN_ok (ns := numE ks es) i (Nat.lt_of_le_of_lt (Nat.zero_le _) h))
  unfold ixZ
  rw [fold_val, h1, h2]
  show 0 * _ + valD (numE ks es) _ = i
  rw [valD_dig, Nat.mod_eq_of_lt (show i < prodN (numE ks es) from h)]
  omega
theorem nth_ok {ks : List Str} (nd : ks.Nodup) {es : List En} {ds : List Nat} (h : Paired (· < ·) ds (numE ks es)) : ∀ p ∈ (nthD ks (epsE es) ds).zip (optE ks (epsE es) (nthD ks (epsE es) ds)), p.1 ∈ p.2 := by
  obtain ⟨h1, h2⟩ := nth_idx nd (L := epsE es) (fun ep he => eps_ne ep he) h
  intro p hp
  obtain ⟨i, hi⟩ := List.getElem?_of_mem hp
  have e1 := congrArg (·[i]?) h1
  have e2 := congrArg (·[i]?) h2
  simp only [List.getElem?_map, hi, Option.map_some] at e1 e2
  obtain ⟨n, en, hl⟩ := Paired.at h e1.symm
  have en2 : (numE ks es)[i]? = some p.2.length := e2.symm
  rw [en] at en2
  cases en2
  exact List.idxOf_lt_length_iff.mp hl
/-- what has its items among the options fits -/
theorem cart_mem : ∀ {os : List (List Str)} {ts : List Str}, ts.length = os.length → (∀ p ∈ ts.zip os, p.1 ∈ p.2) → ts ∈ cart os
  | [], [], _, _ => List.mem_singleton.mpr rfl
  | o :: r, x :: t, l, h => List.mem_flatMap.mpr ⟨x, h (x, o) (List.mem_cons_self ..), List.mem_map.mpr ⟨t, cart_mem (Nat.succ.inj l) fun p hp => h p (List.mem_cons_of_mem _ hp), rfl⟩⟩
theorem gen_mem {ks : List Str} : ∀ {L : List (List En)} {row : List Str}, (∀ ep ∈ L, ep ≠ []) → row.length = L.flatten.length → (∀ p ∈ row.zip (optE ks L row), p.1 ∈ p.2) → row ∈ genE ks L
  | [], row, _, l, _ => by
    have : row = [] := List.eq_nil_of_length_eq_zero l
    rw [this]
    exact List.mem_singleton.mpr rfl
  | ep :: r, row, ne, l, h => by
    have nep := List.length_pos_iff.mpr (ne ep (List.mem_cons_self ..))
    rw [List.flatten_cons, List.length_append] at l
    have ltl : ep.tail.length + 1 = ep.length := by rw [List.length_tail]; omega
    cases row with
    | nil => rw [List.length_nil] at l; omega
    | cons x t =>
      rw [List.length_cons] at l
      have et : t = t.take ep.tail.length ++ t.drop ep.tail.length := (List.take_append_drop ..).symm
      have la : (t.take ep.tail.length).length = ep.tail.length := by rw [List.length_take]; omega
      have lb : (t.drop ep.tail.length).length = r.flatten.length := by rw [List.length_drop]; omega
      have eo : optE ks (ep :: r) (x :: t) = (optW ks ep :: ep.tail.map (optL ks x)) ++ optE ks r (t.drop ep.tail.length) := by
        rw [optE, ← ltl]
        rfl
      rw [eo] at h
      have e2 : x :: t = (x :: t.take ep.tail.length) ++ t.drop ep.tail.length := by
        rw [List.cons_append, ← et]
      rw [e2, List.zip_append (by rw [List.length_cons, List.length_cons, la, List.length_map])] at h
      have hb := gen_mem (row := t.drop ep.tail.length) (fun y hy => ne y (List.mem_cons_of_mem _ hy)) lb fun p hp => h p (List.mem_append_right _ hp)
      have hx : x ∈ optW ks ep := h (x, optW ks ep) (List.mem_append_left _ (List.mem_cons_self ..))
      have ha : t.take ep.tail.length ∈ cart (ep.tail.map (optL ks x)) := cart_mem (by rw [la, List.length_map]) fun p hp => h p (List.mem_append_left _ (List.mem_cons_of_mem _ hp))
      rw [genE, e2]
      refine List.mem_flatMap.mpr ⟨x, hx, List.mem_flatMap.mpr ⟨x :: t.take ep.tail.length, List.mem_map.mpr ⟨_, ha, rfl⟩, List.mem_map.mpr ⟨_, hb, rfl⟩⟩⟩
theorem gen_no {ks : List Str} {es : List En} {row : List Str} (l : row.length = es.length) (h : row ∉ genE ks (epsE es)) : ∃ p ∈ row.zip (optE ks (epsE es) row), p.1 ∉ p.2 := by
  by_cases z : ∀ p ∈ row.zip (optE ks (epsE es) row), p.1 ∈ p.2
  · exact absurd (gen_mem (fun ep he => eps_ne ep he) (by rw [eps_join]; exact l) z) h
  · simpa using z
end UP

set_option Elab.async false
set_option linter.all false
set_option maxRecDepth 100000
set_option maxHeartbeats 4000000
set_option pp.maxSteps 600
namespace UP
open PySem PySem.Spec PyProof.Rows L2
theorem Sq2.bagT {H H' : Hp} {pb cl a : Addr} {n : Nat} {xs : List V} (z : Bag H pb cl n) (b : But pb H H') (na : a ≠ pb) (h : Sq2 H a xs) : Sq2 H' a xs := h.elim (fun e => .inl (b _ _ na e)) (fun e => .inr (b _ _ na e))
theorem erase_mapG {α : Type} {g : α → V} (l : List α) (i : Nat) : (l.map g).eraseIdx i = (l.eraseIdx i).map g := by
  induction l generalizing i with
  | nil => rfl
  | cons x t ih =>
    cases i with
    | zero => rfl
    | succ i => exact congrArg (g x :: ·) (ih i)
theorem erase_perm {α : Type} : ∀ (l : List α) (i : Nat) (h : i < l.length), (l[i] :: l.eraseIdx i).Perm l
  | [], _, h => absurd h (Nat.not_lt_zero _)
  | x :: t, 0, _ => List.Perm.refl _
  | x :: t, i + 1, h => (List.Perm.swap x (t[i]'(Nat.lt_of_succ_lt_succ h)) (t.eraseIdx i)).trans ((erase_perm t i (Nat.lt_of_succ_lt_succ h)).cons x)
theorem orv {σ : L2.St} {H : Hp} {Q : VK} {p b2 : Bool} {tb : TE} (hb : ∀ R : VK, R (.bl b2) H → tb σ H R) (q : Q (.bl (p || b2)) H) : if p = true then Q (.bl true) H else tb σ H Q := by
  cases p with
  | true => exact iteT q
  | false => exact iteF (hb Q q)
theorem frB {H H' : Hp} {p cl : Addr} {n : Nat} (b : But p H H') (z : Bag H' p cl n) {x : Addr} (e : H' x = none) : H x = none := by
  cases y : H x with
  | none => rfl
  | some o =>
    rw [b _ _ (z.ne e) y] at e
    cases e
section
variable {P : Program} {w : World} {K : PySem.W.Frag} {mg : Str → Option Value} {base : Heap}
/-! _law_shuffled: slots 0:bag 1:items 2:left 3:step -/
abbrev s_law_shuffled : Stmt := topS 37
theorem sc_law_shuffled : FnScope ["bag", "items", "left", "step"] ["bag", "items"] (defScope s_law_shuffled) := ⟨rfl, rfl, rfl, by decide +kernel, rfl, by decide +kernel, by decide +kernel⟩
def sp_law_shuffled : Sp := fun vs H Q _ => ∃ (α : Type) (g : α → V) (p cl a : Addr) (n : Nat) (xs : List α), vs = [.ref p, .ref a] ∧ Bag H p cl n ∧ n ≤ 100000000 ∧ H a = some (.lst (xs.map g)) ∧ a ≠ p ∧ xs.length ≤ 1000 ∧
  ∀ (H' : Hp) (L : Addr) (ys : List α), But p H H' → Bag H' p cl (n + 1000) → H L = none → H' L = some (.lst (ys.map g)) → ys.Perm xs → Q (.ref L) H'
theorem ok_law_shuffled (D : Df K mg "_law_shuffled" s_law_shuffled) (T : Tx mg) (G_law_draw : Has P w K mg base 2 "_law_draw" ["bag", "bound"] sp_law_draw) : Has P w K mg base 3 "_law_shuffled" ["bag", "items"] sp_law_shuffled := by
  refine has_of D sc_law_shuffled (fun _ _ _ _ _ _ us hl => match us, hl with | [_, _], _ => rfl) (fun vs H Q E h => ?_) (fun f cdv A outer s₀ H vs Q E hr h => ?_)
  · obtain ⟨_, _, _, _, _, _, _, rfl, _⟩ := h
    rfl
  · obtain ⟨α, g, p, cl, a, n, xs, rfl, z, ln, ha, ap, l4, q⟩ := h
    refine ⟨_, (pss_cons (ps_set (i := 2) sc_law_shuffled.nd rfl (by first | exact Or.inl rfl | exact Or.inr rfl) (pe_callTy call_list_of (by rfl) T.n_list (by decide +kernel) (pa_cons (pv 1) pa_nil)))
    (pss_one (ps_ret (pe_lc (own := [("step", 3)]) rfl sc_law_shuffled.nd (pi_range1 (by rfl) T.n_range (pa_cons (pe_callB call_len_seq (by rfl) T.n_len (by decide +kernel) (pa_cons (pv 1) pa_nil)) pa_nil)) (blkOk_by (N := ["bag", "items", "left", "step"]) (sc := defScope s_law_shuffled) (by decide +kernel)) (fun _ _ _ _ _ => (pg_name (i := 3) sc_law_shuffled.nd rfl (by first | exact Or.inl rfl | exact Or.inr rfl))) (fun _ _ _ _ _ => pts_nil) (fun _ _ _ _ _ => (pe_bmK (K := K) rfl (pe_bm PySem.F.plainAttrs_list PySem.F.slot_list_pop PySem.F.type_list_pop mt_popAt (pv 2) (pa_cons (pe_callH G_law_draw (hr.mono (by omega)) (by rfl) (pa_cons (pv 0) (pa_cons (pe_callB (call_len_seqK (K := K) rfl) (by rfl) T.n_len (by decide +kernel) (pa_cons (pv 2) pa_nil)) pa_nil))) pa_nil)))))))), ?_⟩
    refine ⟨_, rfl, a, xs.map g, rfl, .inl (.of ha), fun l nl => ?_⟩
    have lp := z.ne nl
    have sl := same_upd (o := .lst (xs.map g)) nl
    have hl : (upd H l (.lst (xs.map g))) l = some (.lst (xs.map g)) := upd_same
    obtain ⟨_, _, hcl, _⟩ := id z
    have cL : cl ≠ l := ne_of_none hcl nl
    have z1 := z.same sl
    have ha1 := sl _ _ ha
    have s1 : Same H (upd H l (.lst (xs.map g))) := sl
    generalize upd H l (.lst (xs.map g)) = H1 at *
    refine ⟨_, rfl, a, _, rfl, .inl (.of ha1), _, rfl, by rw [List.length_map]; omega, by rw [List.length_map]; omega, fun L nL => ?_⟩
    have Lp := z1.ne nL
    have lL : l ≠ L := ne_of_none hl nL
    have nlH : H l = none := nl
    have nLH : H L = none := s1.free nL
    have cLL : cl ≠ L := ne_of_none hcl nLH
    refine lc_range (lo := 0) (n := _) (fun i H' => ∃ zs ys : List α, But p H H' ∧ Bag H' p cl (n + i) ∧ H' l = some (.lst (zs.map g)) ∧ zs.length + i = xs.length ∧ (zs ++ ys).Perm xs ∧ H' L = some (.lst (ys.map g)) ∧ ys.length = i)
      ⟨xs, [], (Same.but s1).trans (Same.but (same_upd nL)), z1.same (same_upd nL), same_upd nL _ _ hl, rfl, (by rw [List.append_nil]), upd_same, rfl⟩ (fun i H3 hi hP => ?_) (fun H3 hP => ?_)
    · obtain ⟨zs, ys, b3, z3, hz, lz, mz, hL, ly⟩ := hP
      have hi : i < xs.length := by
        have hi : i < _ := hi
        rw [List.length_map] at hi
        omega
      refine ⟨rfl, yesT ⟨_, rfl, .inl ⟨rfl, _, SqL.of hz⟩, _, rfl, _, rfl, l, _, rfl, .inl (.of hz), p, cl, n + i, _, rfl, z3, by omega, by rw [List.length_map]; omega, wideB (by omega) (by rw [List.length_map]; omega), fun H4 r4 b4 z4 r40 r41 => ?_⟩⟩
      rw [List.length_map] at r41
      have lt : r4.toNat < zs.length := by omega
      have h4 := b4 _ _ lp hz
      have hL4 := b4 _ _ Lp hL
      have ix : seqIndex? r4 (zs.map g).length = some r4.toNat := by
        unfold seqIndex?
        have e1 : ¬ r4 < 0 := by omega
        simp only [e1, if_false]
        rw [if_pos]
        simp
        omega
      refine ⟨l, _, r4, r4.toNat, _, rfl, rfl, h4, by omega, by omega, ix, by rw [List.getElem?_map, List.getElem?_eq_getElem lt]; rfl, ys.map g, ?_, by rw [List.length_map]; exact small (by omega), zs.eraseIdx r4.toNat, ys ++ [zs[r4.toNat]], ?_, ?_, ?_, ?_, ?_, ?_, ?_⟩
      · rw [upd_ne lL.symm]
        exact hL4
      · intro b o nb eb
        have e1 : b ≠ L := ne_of_none eb nLH
        have e2 : b ≠ l := ne_of_none eb nlH
        rw [upd_ne e1, upd_ne e2]
        exact b4 b o nb (b3 b o nb eb)
      · exact (z4.keep (fun o e => by rw [upd_ne Lp.symm, upd_ne lp.symm]; exact e) (fun o e => by rw [upd_ne cLL, upd_ne cL]; exact e)).mono (by omega)
      · rw [upd_ne lL, upd_same, erase_mapG]
      · rw [List.length_eraseIdx_of_lt lt]
        omega
      · refine List.Perm.trans ?_ mz
        rw [← List.append_assoc]
        refine List.Perm.trans List.perm_append_comm ?_
        rw [List.singleton_append, ← List.cons_append]
        exact List.Perm.append_right _ (erase_perm zs r4.toNat lt)
      · rw [upd_same, List.map_append]
        rfl
      · rw [List.length_append, ly]
        rfl
    · obtain ⟨zs, ys, b3, z3, hz, lz, mz, hL, ly⟩ := hP
      rw [List.length_map] at *
      have : zs = [] := by
        refine List.eq_nil_of_length_eq_zero ?_
        omega
      rw [this, List.nil_append] at mz
      exact q H3 L ys b3 (z3.mono (by omega)) nLH hL mz
/-! _law_either: slots 0:bag 1:items -/
abbrev s_law_either : Stmt := topS 38
theorem sc_law_either : FnScope ["bag", "items"] ["bag", "items"] (defScope s_law_either) := ⟨rfl, rfl, rfl, by decide +kernel, rfl, by decide +kernel, by decide +kernel⟩
def sp_law_either : Sp := fun vs H Q _ => ∃ (pb cl a : Addr) (n : Nat) (xs : List V), vs = [.ref pb, .ref a] ∧ Bag H pb cl n ∧ n + 1 ≤ 1000000000000000 ∧ Sq2 H a xs ∧ a ≠ pb ∧ ∀ H' p, But pb H H' → Bag H' pb cl (n + 1) → p ≠ pb → Sq2 H' p xs → Q (.ref p) H'
theorem ok_law_either (D : Df K mg "_law_either" s_law_either) (T : Tx mg) (G_law_draw : Has P w K mg base 2 "_law_draw" ["bag", "bound"] sp_law_draw) : Has P w K mg base 3 "_law_either" ["bag", "items"] sp_law_either := by
  refine has_of D sc_law_either (fun _ _ _ _ _ _ us hl => match us, hl with | [_, _], _ => rfl) (fun vs H Q E h => ?_) (fun f cdv A outer s₀ H vs Q E hr h => ?_)
  · obtain ⟨_, _, _, _, _, rfl, _⟩ := h
    rfl
  · obtain ⟨pb, cl, a, n, xs, rfl, z, ln, hx, na, q⟩ := h
    refine ⟨_, (pss_one (ps_ret (pe_ix ix_list (pe_lst (pa_cons (pe_callTy call_list_of (by rfl) T.n_list (by decide +kernel) (pa_cons (pv 1) pa_nil)) (pa_cons (pe_callTy call_tuple_of (by rfl) T.n_tuple (by decide +kernel) (pa_cons (pv 1) pa_nil)) pa_nil))) (pe_callH G_law_draw (hr.mono (by omega)) (by rfl) (pa_cons (pv 0) (pa_cons pe_int pa_nil))) (fun _ _ => rfl)))), ?_⟩
    have fin : ∀ (H1 : Hp) (l t : Addr), Same H H1 → l ≠ pb → t ≠ pb → Sq2 H1 l xs → Sq2 H1 t xs → ∀ m, H1 m = none → ∀ (H2 : Hp) (r : Int), But pb (upd H1 m (.lst [.ref l, .ref t])) H2 → Bag H2 pb cl (n + 1) → 0 ≤ r → r < 2 → rIxL K (.ref m) (.int r) H2 Q := fun H1 l t s1 nl nt hl ht m nm H2 r b2 z2 r0 r1 => by
      have sm := same_upd (o := .lst [.ref l, .ref t]) nm
      have mp : m ≠ pb := (z.same s1).ne nm
      have hm := b2 _ _ mp (upd_same (H := H1) (a := m) (o := .lst [.ref l, .ref t]))
      have B : But pb H H2 := (Same.but (s1.trans sm)).trans b2
      have z1 := (z.same s1).same sm
      rcases (show r = 0 ∨ r = 1 by omega) with e | e
      · subst e
        exact ⟨m, _, 0, _, rfl, rfl, .of hm, at0, q _ l B z2 nl ((hl.same sm).bagT z1 b2 nl)⟩
      · subst e
        exact ⟨m, _, 1, _, rfl, rfl, .of hm, at1, q _ t B z2 nt ((ht.same sm).bagT z1 b2 nt)⟩
    rcases hx with hx | hx
    · refine ⟨_, rfl, a, _, rfl, .inl (.of hx), fun l nl => ?_⟩
      have s1 := same_upd (o := .lst xs) nl
      refine ⟨_, rfl, a, _, rfl, .inl ⟨.of (s1 _ _ hx), fun t nt => ?_⟩⟩
      have s2 := s1.trans (same_upd (o := .tup xs) nt)
      refine ⟨(by show 2 ≤ sizeLine; decide), fun m nm => ⟨_, rfl, pb, cl, n, 2, rfl, (z.same s2).same (same_upd nm), ln, by decide, by decide, fun H2 r b2 z2 r0 r1 => ?_⟩⟩
      exact fin _ l t s2 (z.ne nl) ((z.same s1).ne nt) (.inl (same_upd nt _ _ upd_same)) (.inr upd_same) m nm H2 r b2 z2 r0 r1
    · refine ⟨_, rfl, a, _, rfl, .inr (.of hx), fun l nl => ?_⟩
      have s1 := same_upd (o := .lst xs) nl
      refine ⟨_, rfl, a, _, rfl, .inr ⟨.of (s1 _ _ hx), ?_⟩⟩
      refine ⟨(by show 2 ≤ sizeLine; decide), fun m nm => ⟨_, rfl, pb, cl, n, 2, rfl, (z.same s1).same (same_upd nm), ln, by decide, by decide, fun H2 r b2 z2 r0 r1 => ?_⟩⟩
      exact fin _ l a s1 (z.ne nl) na (.inl upd_same) (.inr (s1 _ _ hx)) m nm H2 r b2 z2 r0 r1
def kd12 : List Str := ["a", "b", "abcdefgh", "zz", "m", "ba", "q", "xyz", "cc", "p", "waits", "aa"]
theorem kd12_ok : (∀ k ∈ kd12, KindOk k) ∧ kd12.Nodup := by
  refine ⟨?_, by decide +kernel⟩
  intro k hk
  simp only [kd12, List.mem_cons, List.not_mem_nil, or_false] at hk
  rcases hk with e | e | e | e | e | e | e | e | e | e | e | e <;> (subst e; decide +kernel)
/-- sorted head of a shuffled list of kinds -/
theorem ks_sorted {base ys ks : List Str} {m : Nat} (hb : ∀ k ∈ base, KindOk k) (nd : base.Nodup) (p : ys.Perm base) (q : ks.Perm (ys.take m)) (s : sortedS ks = true) (m0 : 0 < m) (b0 : 0 < base.length) (l : (ys.take m).length ≤ 12) : KsOk ks ∧ ks.Nodup ∧ ks.length = (ys.take m).length := by
  have ln := q.length_eq
  have nks : ks.Nodup := q.nodup_iff.mpr ((p.nodup_iff.mpr nd).sublist (List.take_sublist ..))
  have lp := p.length_eq
  refine ⟨ks_of ?_ (by omega) (fun k hk => hb k (p.mem_iff.mp (List.mem_of_mem_take (q.mem_iff.mp hk)))) ⟨nks, s⟩, nks, ln⟩
  rw [ln, List.length_take]
  omega
theorem cutV_take (l : List Str) (m : Int) (h0 : 0 ≤ m) : cutV (l.map V.str) none (some m) = (l.take m.toNat).map V.str := by
  unfold cutV
  show ((l.map V.str).drop (HT.sIx _ 0 none)).take (HT.sIx _ _ (some m) - HT.sIx _ 0 none) = _
  have e0 : HT.sIx (l.map V.str).length 0 none = 0 := rfl
  rw [e0, List.drop_zero, Nat.sub_zero, List.map_take]
  have : HT.sIx (l.map V.str).length (l.map V.str).length (some m) = min m.toNat (l.map V.str).length := by
    show (if m < 0 then (m + ((l.map V.str).length : Int)).toNat else min m.toNat (l.map V.str).length) = _
    rw [if_neg (by omega)]
  rw [this]
  rcases Nat.le_total m.toNat (l.map V.str).length with h | h
  · rw [Nat.min_eq_left h]
  · rw [Nat.min_eq_right h, List.take_length, List.take_of_length_le h]
/-! _law_kinds: slots 0:bag 1:most 2:names -/
abbrev s_law_kinds : Stmt := topS 39
theorem sc_law_kinds : FnScope ["bag", "most", "names"] ["bag", "most"] (defScope s_law_kinds) := ⟨rfl, rfl, rfl, by decide +kernel, rfl, by decide +kernel, by decide +kernel⟩
def sp_law_kinds : Sp := fun vs H Q _ => ∃ (p cl : Addr) (n : Nat) (m : Int), vs = [.ref p, .int m] ∧ 1 ≤ m ∧ m ≤ 12 ∧ Bag H p cl n ∧ n ≤ 10000000 ∧
  ∀ (H' : Hp) (L : Addr) (ks : List Str), But p H H' → Bag H' p cl (n + 1001) → H L = none → L ≠ p → H' L = some (.lst (ks.map V.str)) → KsOk ks → ks.Nodup → (ks.length : Int) ≤ m → Q (.ref L) H'
theorem ok_law_kinds (D : Df K mg "_law_kinds" s_law_kinds) (T : Tx mg) (G_law_draw : Has P w K mg base 2 "_law_draw" ["bag", "bound"] sp_law_draw) (G_law_shuffled : Has P w K mg base 3 "_law_shuffled" ["bag", "items"] sp_law_shuffled) : Has P w K mg base 4 "_law_kinds" ["bag", "most"] sp_law_kinds := by
  refine has_of D sc_law_kinds (fun _ _ _ _ _ _ us hl => match us, hl with | [_, _], _ => rfl) (fun vs H Q E h => ?_) (fun f cdv A outer s₀ H vs Q E hr h => ?_)
  · obtain ⟨_, _, _, _, rfl, _⟩ := h
    rfl
  · obtain ⟨p, cl, n, m, rfl, m1, m12, z, ln, q⟩ := h
    refine ⟨_, (pss_cons (ps_set (i := 2) sc_law_kinds.nd rfl (by first | exact Or.inl rfl | exact Or.inr rfl) (pe_lst (pa_cons pe_str (pa_cons pe_str (pa_cons pe_str (pa_cons pe_str (pa_cons pe_str (pa_cons pe_str (pa_cons pe_str (pa_cons pe_str (pa_cons pe_str (pa_cons pe_str (pa_cons pe_str (pa_cons pe_str pa_nil))))))))))))))
    (pss_one (ps_ret (pe_callB cr_sortedS (by rfl) T.n_sorted (by decide +kernel) (pa_cons (pe_slice sl_list (pe_callH G_law_shuffled (hr.mono (by omega)) (by rfl) (pa_cons (pv 0) (pa_cons (pv 2) pa_nil))) po_none (po_some (pe_op op_add pe_int (pe_callH G_law_draw (hr.mono (by omega)) (by rfl) (pa_cons (pv 0) (pa_cons (pv 1) pa_nil)))))) pa_nil))))), ?_⟩
    refine ⟨(by show 12 ≤ sizeLine; decide), fun a na => ?_⟩
    have s1 := same_upd (o := .lst (kd12.map V.str)) na
    have ha := upd_same (H := H) (a := a) (o := .lst (kd12.map V.str))
    have ap := z.ne na
    show tSeq _ _ _ _ (upd H a (.lst (kd12.map V.str)))
    generalize upd H a (.lst (kd12.map V.str)) = H1 at *
    have z1 := z.same s1
    refine ⟨_, rfl, _, rfl, Str, V.str, p, cl, a, n, kd12, rfl, z1, by omega, ha, ap, by decide, fun H2 L ys b2 z2 nL hL pm => ?_⟩
    refine ⟨_, rfl, _, rfl, p, cl, n + 1000, m, rfl, z2, by omega, m1, wideB (by omega) (by omega), fun H3 r b3 z3 r0 r1 => ?_⟩
    have Lp := z1.ne nL
    refine ⟨1, r, rfl, rfl, _, rfl, L, _, rfl, .of (b3 _ _ Lp hL), fun M nM => ?_⟩
    have e1 := cutV_take ys (1 + r) (by omega)
    rw [e1]
    have lt : (ys.take (1 + r).toNat).length ≤ 12 := by
      rw [List.length_take]
      omega
    refine ⟨M, ys.take (1 + r).toNat, rfl, .of upd_same, by omega, fun ks N pk sk nN => ?_⟩
    obtain ⟨h1, h2, h3⟩ := ks_sorted kd12_ok.1 kd12_ok.2 pm pk sk (by omega) (by decide) lt
    have sM := same_upd (o := .lst ((ys.take (1 + r).toNat).map V.str)) nM
    have sN := same_upd (o := .lst (ks.map V.str)) nN
    have z5 := (z3.same sM).same sN
    have B : But p H (upd (upd H3 M (.lst ((ys.take (1 + r).toNat).map V.str))) N (.lst (ks.map V.str))) := ((Same.but s1).trans b2).trans (b3.trans (Same.but (sM.trans sN)))
    have nN3 : H3 N = none := sM.free nN
    have B3 : But p H H3 := ((Same.but s1).trans b2).trans b3
    exact q _ N ks B (z5.mono (by omega)) (frB B3 z3 nN3) (z3.ne nN3) upd_same h1 h2 (by rw [h3, List.length_take]; omega)
/-! _law_actions: slots 0:items 1:item 2:waiting 3:count 4:found 5:stays -/
abbrev s_law_actions : Stmt := topS 40
theorem sc_law_actions : FnScope ["items", "item", "waiting", "count", "found", "stays"] ["items"] (defScope s_law_actions) := ⟨rfl, rfl, rfl, by decide +kernel, rfl, by decide +kernel, by decide +kernel⟩
def sp_law_actions : Sp := fun vs H Q _ => ∃ (a : Addr) (its : List Str), vs = [.ref a] ∧ H a = some (.lst (its.map V.str)) ∧ its.length ≤ 400 ∧ ∀ H' p, Same H H' → H p = none → H' p = some (.lst ((actI "" 0 its).map fun b => V.str (actS b))) → Q (.ref p) H'
def aftW : Str → Nat → List Str → Str × Nat
  | w, c, [] => (w, c)
  | w, c, k :: t => aftW (nxtW w c k) (nxtC w c k) t
theorem actI_app : ∀ (l m : List Str) (w : Str) (c : Nat), actI w c (l ++ m) = actI w c l ++ actI (aftW w c l).1 (aftW w c l).2 m
  | [], _, _, _ => rfl
  | k :: t, m, w, c => congrArg (staysI w c k :: ·) (actI_app t m _ _)
theorem aftW_app : ∀ (l m : List Str) (w : Str) (c : Nat), aftW w c (l ++ m) = aftW (aftW w c l).1 (aftW w c l).2 m
  | [], _, _, _ => rfl
  | k :: t, m, w, c => aftW_app t m _ _
theorem ok_law_actions (D : Df K mg "_law_actions" s_law_actions) : Has P w K mg base 1 "_law_actions" ["items"] sp_law_actions := by
  refine has_of D sc_law_actions (fun _ _ _ _ _ _ us hl => match us, hl with | [_], _ => rfl) (fun vs H Q E h => ?_) (fun f cdv A outer s₀ H vs Q E hr h => ?_)
  · obtain ⟨_, _, rfl, _⟩ := h
    rfl
  · obtain ⟨a, its, rfl, ha, l4, q⟩ := h
    refine ⟨_, (pss_cons (ps_par3 (i := 2) (j := 3) (l := 4) (by rfl) sc_law_actions.nd rfl rfl rfl (by decide) (by decide) (by decide) rfl rfl rfl (pa_cons pe_str (pa_cons pe_int (pa_cons (pe_lst pa_nil) pa_nil))) (by rfl))
    (pss_cons (ps_for PassesOwn.never rfl (pi_list (pv 0)) (pg_name (i := 1) sc_law_actions.nd rfl (by first | exact Or.inl rfl | exact Or.inr rfl))
      (pss_cons (ps_set (i := 5) sc_law_actions.nd rfl (by first | exact Or.inl rfl | exact Or.inr rfl) (pe_or (pe_cmpR op_eq (pv 3) pe_int (nomark _)) (pe_one (pe_cmpR op_eq (pv 1) (pv 2) (nomark _)))))
    (pss_cons (ps_set (i := 2) sc_law_actions.nd rfl (by first | exact Or.inl rfl | exact Or.inr rfl) (pe_ifExp (pt_val (pv 5)) (pv 1) (pv 2)))
    (pss_cons (ps_set (i := 3) sc_law_actions.nd rfl (by first | exact Or.inl rfl | exact Or.inr rfl) (pe_ifExp (pt_val (pv 5)) (pe_op op_add (pv 3) pe_int) (pe_op op_sub (pv 3) pe_int)))
    (pss_one (ps_expr (pe_bm PySem.F.plainAttrs_list PySem.F.slot_list_append PySem.F.type_list_append mt_append (pv 4) (pa_cons (pe_ifExp (pt_val (pv 5)) pe_str pe_str) pa_nil))))))))
    (pss_one (ps_ret (pv 4))))), ?_⟩
    refine ⟨Nat.zero_le _, fun p np => ?_⟩
    have ap : a ≠ p := ne_of_none ha np
    refine ⟨_, _, _, rfl, _, rfl, a, rfl, ⟨_, .of (same_upd np _ _ ha)⟩, for_list (K := K) (a := a) (xs := its.map V.str) (fun i σ H' => ∃ y1 y5, σ = [some (.ref a), y1, some (.str (aftW "" 0 (its.take i)).1), some (.int ((aftW "" 0 (its.take i)).2 : Nat)), some (.ref p), y5] ∧ Same H H' ∧ H' p = some (.lst ((actI "" 0 (its.take i)).map fun b => V.str (actS b))))
      ⟨none, none, rfl, same_upd np, upd_same⟩ (fun i σ H' _ hP => ?_) (fun i x σ H1 ex hP => ?_) (fun σ H1 hP => ?_)⟩
    · obtain ⟨_, _, _, sm, _⟩ := hP
      exact .of (sm _ _ ha)
    · obtain ⟨y1, y5, rfl, sm, hp⟩ := hP
      obtain ⟨k, ek, rfl⟩ := str_at ex
      have hi : i < its.length := (List.getElem?_eq_some_iff.mp ek).1
      have e1 : aftW "" 0 (its.take (i + 1)) = (nxtW (aftW "" 0 (its.take i)).1 (aftW "" 0 (its.take i)).2 k, nxtC (aftW "" 0 (its.take i)).1 (aftW "" 0 (its.take i)).2 k) := by
        rw [take_snoc ek, aftW_app]
        rfl
      have e2 : actI "" 0 (its.take (i + 1)) = actI "" 0 (its.take i) ++ [staysI (aftW "" 0 (its.take i)).1 (aftW "" 0 (its.take i)).2 k] := by
        rw [take_snoc ek, actI_app]
        rfl
      have la : (actI "" 0 (its.take i)).length = i := by rw [actI_len, List.length_take]; omega
      rw [e1, e2]
      have c400 : ∀ (l : List Str) (w : Str) (c : Nat), (aftW w c l).2 ≤ c + l.length := by
        intro l
        induction l with
        | nil => intro w c; exact Nat.le_refl _
        | cons k t ih =>
          intro w c
          have := ih (nxtW w c k) (nxtC w c k)
          have h2 : nxtC w c k ≤ c + 1 := by
            unfold nxtC
            split <;> omega
          show (aftW (nxtW w c k) (nxtC w c k) t).2 ≤ c + (t.length + 1)
          omega
      have cc := c400 (its.take i) "" 0
      generalize (aftW "" 0 (its.take i)).1 = wd at *
      generalize (aftW "" 0 (its.take i)).2 = c at *
      generalize actI "" 0 (its.take i) = acc at *
      refine ⟨_, rfl, rfl, _, rfl, orv (b2 := decide (k = wd)) (fun R hR => ⟨_, rfl, _, rfl, rfl, ?_⟩) ?_⟩
      · rw [show decide (V.str k = V.str wd) = decide (k = wd) from decide_eq_decide.mpr ⟨fun h => V.str.inj h, fun h => congrArg V.str h⟩]
        exact hR
      have e0 : (decide (V.int (c : Nat) = V.int 0) || decide (k = wd)) = staysI wd c k := by
        rw [show decide (V.int (c : Nat) = V.int 0) = decide (c = 0) from nv_dec c 0]
        rfl
      rw [e0]
      have e3 : nxtW wd c k = if staysI wd c k = true then k else wd := rfl
      have e4 : nxtC wd c k = if staysI wd c k = true then c + 1 else c - 1 := rfl
      rw [e3, e4]
      have c0 : staysI wd c k = false → c ≠ 0 := fun h z => by
        subst z
        cases h
      generalize staysI wd c k = b at *
      have fin : ∀ o : List V, o = acc.map (fun b => V.str (actS b)) ++ [V.str (actS b)] → Same H (upd H1 p (.lst o)) ∧ (upd H1 p (.lst o)) p = some (.lst ((acc ++ [b]).map fun b => V.str (actS b))) := fun o ho => by
        refine ⟨same_grow np sm, ?_⟩
        rw [upd_same, ho, List.map_append]
        rfl
      have lac : (acc.map fun b => V.str (actS b)).length < sizeLine := by
        rw [List.length_map, la]
        exact small (by omega)
      cases b with
      | true => exact ⟨_, rfl, _, rfl, iteT ⟨_, rfl, _, rfl, _, rfl, iteT ⟨_, rfl, _, _, rfl, rfl, _, rfl, .inl ⟨rfl, _, SqL.of hp⟩, _, rfl, _, rfl, iteT ⟨p, _, _, rfl, rfl, hp, lac, _, _, rfl, fin _ rfl⟩⟩⟩⟩
      | false =>
        have := c0 rfl
        refine ⟨_, rfl, _, rfl, iteF ⟨_, rfl, _, rfl, _, rfl, iteF ⟨_, rfl, _, _, rfl, rfl, _, rfl, .inl ⟨rfl, _, SqL.of hp⟩, _, rfl, _, rfl, iteF ⟨p, _, _, rfl, rfl, hp, lac, some (.str k), some (.bl false), ?_, fin _ rfl⟩⟩⟩⟩
        show [some (V.ref a), some (V.str k), some (V.str wd), some (V.int ((c : Int) - 1)), some (V.ref p), some (V.bl false)] = [some (V.ref a), some (V.str k), some (V.str wd), some (V.int ((c - 1 : Nat) : Int)), some (V.ref p), some (V.bl false)]
        rw [show ((c - 1 : Nat) : Int) = (c : Int) - 1 by omega]
    · obtain ⟨y1, y5, rfl, sm, hp⟩ := hP
      rw [List.length_map, List.take_length] at hp
      exact ⟨_, rfl, q _ _ sm np hp⟩
end
end UP

set_option Elab.async false
set_option linter.all false
set_option maxRecDepth 100000
set_option maxHeartbeats 4000000
set_option pp.maxSteps 600
namespace UP
open PySem PySem.Spec PyProof.Rows L2
theorem EnV.bagT {H H' : Hp} {pb cl : Addr} {n : Nat} {v : V} {e : En} (z : Bag H pb cl n) (b : But pb H H') (h : EnV H v e) : EnV H' v e := by
  obtain ⟨q, h1, _⟩ := id z
  exact h.tk fun t xs e => b _ _ (ne_of e h1 (by intro y; cases y)) e
theorem Rec.bagT {H H' : Hp} {pb cl a : Addr} {n : Nat} {es : List En} (z : Bag H pb cl n) (b : But pb H H') (na : a ≠ pb) (h : Rec H a es) : Rec H' a es := by
  obtain ⟨xs, hx, hp⟩ := h
  exact ⟨xs, b _ _ na hx, Paired.imp (fun _ _ y => EnV.bagT z b y) hp⟩
theorem pick3 (r : Int) (h0 : 0 ≤ r) (h1 : r < 3) (a b c : Int) (P : Int → Prop) (pa : P a) (pb : P b) (pc : P c) : ∃ g : Int, atI [V.int a, V.int b, V.int c] r = some (.int g) ∧ P g := by
  rcases (show r = 0 ∨ r = 1 ∨ r = 2 by omega) with er | er | er
  · rw [er]
    exact ⟨a, rfl, pa⟩
  · rw [er]
    exact ⟨b, rfl, pb⟩
  · rw [er]
    exact ⟨c, rfl, pc⟩
section
variable {P : Program} {w : World} {K : PySem.W.Frag} {mg : Str → Option Value} {base : Heap}
/-! _law_items: slots 0:bag 1:kinds 2:count 3:again 4:found 5:step 6:item -/
abbrev s_law_items : Stmt := topS 41
theorem sc_law_items : FnScope ["bag", "kinds", "count", "again", "found", "step", "item"] ["bag", "kinds", "count"] (defScope s_law_items) := ⟨rfl, rfl, rfl, by decide +kernel, rfl, by decide +kernel, by decide +kernel⟩
def sp_law_items : Sp := fun vs H Q _ => ∃ (p cl ka : Addr) (n : Nat) (ks : List Str) (m : Int), vs = [.ref p, .ref ka, .int m] ∧ Bag H p cl n ∧ n ≤ 100000000 ∧ H ka = some (.lst (ks.map V.str)) ∧ ka ≠ p ∧ 1 ≤ ks.length ∧ ks.length ≤ 100 ∧ (∀ k ∈ ks, KindOk k) ∧ 0 ≤ m ∧ m ≤ 400 ∧
  ∀ (H' : Hp) (L : Addr) (items : List Str), But p H H' → Bag H' p cl (n + 900) → H L = none → L ≠ p → H' L = some (.lst (items.map V.str)) → (∀ k ∈ items, k ∈ ks) → items.length ≤ 400 → (items.length : Int) = m → Q (.ref L) H'
theorem ok_law_items (D : Df K mg "_law_items" s_law_items) (T : Tx mg) (G_law_draw : Has P w K mg base 2 "_law_draw" ["bag", "bound"] sp_law_draw) : Has P w K mg base 3 "_law_items" ["bag", "kinds", "count"] sp_law_items := by
  refine has_of D sc_law_items (fun _ _ _ _ _ _ us hl => match us, hl with | [_, _, _], _ => rfl) (fun vs H Q E h => ?_) (fun f cdv A outer s₀ H vs Q E hr h => ?_)
  · obtain ⟨_, _, _, _, _, _, rfl, _⟩ := h
    rfl
  · obtain ⟨p, cl, ka, n, ks, m, rfl, z, ln, hka, kap, k1, k100, kok, m0, m1, q⟩ := h
    refine ⟨_, (pss_cons (ps_set (i := 3) sc_law_items.nd rfl (by first | exact Or.inl rfl | exact Or.inr rfl) (pe_ix ix_list (pe_lst (pa_cons pe_int (pa_cons pe_int (pa_cons pe_int pa_nil)))) (pe_callH G_law_draw (hr.mono (by omega)) (by rfl) (pa_cons (pv 0) (pa_cons pe_int pa_nil))) (fun _ _ => rfl)))
    (pss_cons (ps_set (i := 4) sc_law_items.nd rfl (by first | exact Or.inl rfl | exact Or.inr rfl) (pe_lst pa_nil))
    (pss_cons (ps_for PassesOwn.never rfl (pi_range1 (by rfl) T.n_range (pa_cons (pv 2) pa_nil)) (pg_name (i := 5) sc_law_items.nd rfl (by first | exact Or.inl rfl | exact Or.inr rfl))
      (pss_cons (ps_set (i := 6) sc_law_items.nd rfl (by first | exact Or.inl rfl | exact Or.inr rfl) (pe_ix ix_list (pv 1) (pe_callH G_law_draw (hr.mono (by omega)) (by rfl) (pa_cons (pv 0) (pa_cons (pe_callB call_len_seq (by rfl) T.n_len (by decide +kernel) (pa_cons (pv 1) pa_nil)) pa_nil))) (fun _ _ => rfl)))
    (pss_one (ps_expr (pe_bm PySem.F.plainAttrs_list PySem.F.slot_list_append PySem.F.type_list_append mt_append (pv 4) (pa_cons (pe_ifExp (PW.pt (pw_and (pt_cmpR (op_neD hr.units) (pv 4) (pe_lst pa_nil) (nomark _)) (pw_and1 (pt_cmpR op_gt (pe_callH G_law_draw (hr.mono (by omega)) (by rfl) (pa_cons (pv 0) (pa_cons (pv 3) pa_nil))) pe_int (nomark _))))) (pe_ix ix_list (pv 4) (pe_un un_neg pe_int) (fun _ _ => rfl)) (pv 6)) pa_nil))))))
    (pss_one (ps_ret (pv 4)))))), ?_⟩
    refine ⟨(by show 3 ≤ sizeLine; decide), fun e ne => ⟨_, rfl, p, cl, n, 3, rfl, z.same (same_upd ne), by omega, by decide, by decide, fun H2 r b2 z2 r0 r1 => ?_⟩⟩
    have he := b2 _ _ (z.ne ne) (upd_same (H := H) (a := e) (o := .lst [.int 1, .int 2, .int 8]))
    have B2 : But p H H2 := (Same.but (same_upd ne)).trans b2
    have hka2 := B2 _ _ kap hka
    obtain ⟨g, hg, g1, g2⟩ : ∃ g : Int, atI [V.int 1, V.int 2, V.int 8] r = some (.int g) ∧ 1 ≤ g ∧ g ≤ 8 := by
      rcases (show r = 0 ∨ r = 1 ∨ r = 2 by omega) with er | er | er
      · rw [er]
        exact ⟨1, rfl, by decide, by decide⟩
      · rw [er]
        exact ⟨2, rfl, by decide, by decide⟩
      · rw [er]
        exact ⟨8, rfl, by decide, by decide⟩
    refine ⟨e, _, r, _, rfl, rfl, .of he, hg, ?_⟩
    clear hg he b2
    have fr : ∀ {x : Addr}, H2 x = none → H x = none := fun {x} e => by
      cases y : H x with
      | none => rfl
      | some o =>
        rw [B2 _ _ (z2.ne e) y] at e
        cases e
    refine ⟨Nat.zero_le _, fun L nL => ?_⟩
    have nLp := z2.ne nL
    have nLk : ka ≠ L := ne_of_none hka2 nL
    have sL := same_upd (o := .lst []) nL
    have hL0 : (upd H2 L (.lst [])) L = some (.lst []) := upd_same
    obtain ⟨qb, hb1, hb2, _⟩ := id z2
    have cL : cl ≠ L := ne_of_none hb2 nL
    have zL := z2.same sL
    have BL : But p H (upd H2 L (.lst [])) := B2.trans (Same.but sL)
    generalize upd H2 L (.lst []) = H3 at *
    refine ⟨_, rfl, m, rfl, by omega, by omega, for_range (lo := 0) (n := m.toNat) (fun i σ H' => ∃ (y5 y6 : Option V) (items : List Str), σ = [some (.ref p), some (.ref ka), some (.int m), some (.int g), some (.ref L), y5, y6] ∧ But p H H' ∧ Bag H' p cl (n + 1 + 2 * i) ∧ H' L = some (.lst (items.map V.str)) ∧ items.length = i ∧ (∀ k ∈ items, k ∈ ks))
      ⟨none, none, [], rfl, BL, zL, hL0, rfl, (fun r h => by cases h)⟩ (fun i σ H6 hi hP => ?_) (fun σ H6 hP => ?_)⟩
    · obtain ⟨y5, y6, items, rfl, b6, z6, hL, li, ok⟩ := hP
      have hi : i < m.toNat := hi
      have hk6 := b6 _ _ kap hka
      refine ⟨_, rfl, _, rfl, _, rfl, ka, _, rfl, .inl (.of hk6), ?_⟩
      refine ⟨p, cl, _, _, rfl, z6, by omega, by rw [List.length_map]; omega, wideB (by rw [List.length_map]; omega) (by rw [List.length_map]; omega), fun H7 r7 b7 z7 r70 r71 => ?_⟩
      rw [List.length_map] at r71
      have l8 : r7.toNat < ks.length := by omega
      have ek : atI (ks.map V.str) r7 = some (.str ks[r7.toNat]) := atI_ofB r70 (by rw [List.getElem?_map, List.getElem?_eq_getElem l8]; rfl)
      have kk : ks[r7.toNat] ∈ ks := List.getElem_mem l8
      generalize ks[r7.toNat] = kd at ek kk
      have hL7 := b7 _ _ nLp hL
      refine ⟨ka, _, r7, _, rfl, rfl, .of (b7 _ _ kap hk6), ek, ?_⟩
      have B7 := b6.trans b7
      have fin : ∀ (H9 : Hp) (x : Str), x ∈ ks → But p H7 H9 → Bag H9 p cl (n + 1 + 2 * i + 1 + 1) → H9 L = some (.lst (items.map V.str)) → (items.map V.str).length < sizeLine ∧ ∃ (y5 y6 : Option V) (items' : List Str), [some (V.ref p), some (V.ref ka), some (V.int m), some (V.int g), some (V.ref L), some (V.int (0 + (i : Int))), some (V.str kd)] = [some (.ref p), some (.ref ka), some (.int m), some (.int g), some (.ref L), y5, y6] ∧ But p H (upd H9 L (.lst (items.map V.str ++ [.str x]))) ∧ Bag (upd H9 L (.lst (items.map V.str ++ [.str x]))) p cl (n + 1 + 2 * (i + 1)) ∧ (upd H9 L (.lst (items.map V.str ++ [.str x]))) L = some (.lst (items'.map V.str)) ∧ items'.length = i + 1 ∧ (∀ k ∈ items', k ∈ ks) := fun H9 x kx b9 z9 h9 => by
        refine ⟨by rw [List.length_map]; exact small (by omega), _, _, items ++ [x], rfl, fun b o nb e => ?_, ?_, ?_, ?_, fun k hk => ?_⟩
        · have : b ≠ L := ne_of_none e (fr nL)
          exact but_upd _ _ this (b9 _ _ nb (B7 _ _ nb e))
        · exact (z9.keep (fun o e => but_upd _ _ nLp.symm e) (fun o e => but_upd _ _ cL e)).mono (by omega)
        · rw [upd_same, List.map_append]
          rfl
        · rw [List.length_append, li]
          rfl
        · rcases List.mem_append.mp hk with h | h
          · exact ok k h
          · rw [List.mem_singleton.mp h]
            exact kx
      refine ⟨_, rfl, .inl ⟨rfl, _, SqL.of hL7⟩, ?_⟩
      refine ⟨_, rfl, Nat.zero_le _, fun e ne => ?_⟩
      have se : Same H7 (upd H7 e (.lst [])) := same_upd ne
      refine ⟨.list (items.map PyData.str), .list [], .lst (.of (se _ _ hL7)) (dp_strl _), .lst (.of upd_same) .nil, shaped_strl fun k hk => kok _ (ok k hk), shaped_nil, _, rfl, ?_⟩
      rw [eqv_nilS]
      cases hit : items with
      | nil =>
        refine iteN rfl ?_
        dsimp only [Bool.false_eq_true, if_false]
        have f := fin (upd H7 e (.lst [])) kd kk (Same.but se) ((z7.same se).mono (by omega)) (se _ _ hL7)
        rw [hit] at f
        exact ⟨_, rfl, L, _, _, rfl, rfl, by rw [hit] at hL7; exact se _ _ hL7, f.1, f.2⟩
      | cons i0 it0 =>
        refine iteP rfl ?_
        refine ⟨_, rfl, _, rfl, p, cl, _, g, rfl, z7.same se, by omega, g1, wideB (by omega) (by omega), fun H10 r10 b10 z10 r100 r101 => ?_⟩
        have hL10 := b10 _ _ nLp (se _ _ hL7)
        refine ⟨r10, 0, rfl, rfl, _, rfl, ?_⟩
        by_cases c : 0 < r10
        · refine iteP (decide_eq_true c) ?_
          have hne : items ≠ [] := by rw [hit]; exact fun z => by cases z
          have e2 : items = items.dropLast ++ [items.getLast hne] := (List.dropLast_concat_getLast hne).symm
          have exl : atI (items.map V.str) (-1) = some (.str (items.getLast hne)) := by
            have : items.map V.str = items.dropLast.map V.str ++ [V.str (items.getLast hne)] := by
              conv => lhs; rw [e2]
              rw [List.map_append]
              rfl
            rw [this]
            exact atI_last _ _
          have f := fin H10 (items.getLast hne) (ok _ (List.getLast_mem hne)) ((Same.but se).trans b10) (z10.mono (by omega)) hL10
          refine ⟨_, rfl, 1, rfl, L, _, -1, _, rfl, rfl, .of hL10, exl, L, _, _, rfl, rfl, hL10, f.1, f.2⟩
        · refine iteN (decide_eq_false c) ?_
          have f := fin H10 kd kk ((Same.but se).trans b10) (z10.mono (by omega)) hL10
          exact ⟨_, rfl, L, _, _, rfl, rfl, hL10, f.1, f.2⟩
    · obtain ⟨y5, y6, items, rfl, b6, z6, hL, li, ok⟩ := hP
      exact ⟨_, rfl, q H6 L items b6 (z6.mono (by omega)) (fr nL) nLp hL ok (by omega) (by omega)⟩
/-! _law_hidden: slots 0:bag 1:items 2:often 3:found 4:item 5:action -/
abbrev s_law_hidden : Stmt := topS 42
theorem sc_law_hidden : FnScope ["bag", "items", "often", "found", "item", "action"] ["bag", "items"] (defScope s_law_hidden) := ⟨rfl, rfl, rfl, by decide +kernel, rfl, by decide +kernel, by decide +kernel⟩
def sp_law_hidden : Sp := fun vs H Q _ => ∃ (p cl a : Addr) (n : Nat) (its : List Str), vs = [.ref p, .ref a] ∧ Bag H p cl n ∧ n ≤ 100000000 ∧ H a = some (.lst (its.map V.str)) ∧ a ≠ p ∧ its.length ≤ 400 ∧
  ∀ (H' : Hp) (L : Addr) (es : List En), But p H H' → Bag H' p cl (n + 500) → H L = none → L ≠ p → Rec H' L es → Paired LeE es (recI "" 0 its) → Q (.ref L) H'
theorem recI_at {its : List Str} {i : Nat} {k : Str} {c : Bool} (h1 : its[i]? = some k) (h2 : (actI "" 0 its)[i]? = some c) : (recI "" 0 its)[i]? = some (some k, c) := by
  have e1 := recI_kind its "" 0
  have e2 := recI_act its "" 0
  have f1 : ((recI "" 0 its).map (·.1))[i]? = some (some k) := by rw [e1, List.getElem?_map, h1]; rfl
  have f2 : ((recI "" 0 its).map (·.2))[i]? = some c := by rw [e2, h2]
  rw [List.getElem?_map] at f1 f2
  cases h : (recI "" 0 its)[i]? with
  | none => rw [h] at f1; cases f1
  | some e =>
    rw [h] at f1 f2
    obtain ⟨x, y⟩ := e
    cases Option.some.inj f1
    cases Option.some.inj f2
    rfl
theorem ok_law_hidden (D : Df K mg "_law_hidden" s_law_hidden) (T : Tx mg) (G_law_draw : Has P w K mg base 2 "_law_draw" ["bag", "bound"] sp_law_draw) (G_law_actions : Has P w K mg base 1 "_law_actions" ["items"] sp_law_actions) : Has P w K mg base 3 "_law_hidden" ["bag", "items"] sp_law_hidden := by
  refine has_of D sc_law_hidden (fun _ _ _ _ _ _ us hl => match us, hl with | [_, _], _ => rfl) (fun vs H Q E h => ?_) (fun f cdv A outer s₀ H vs Q E hr h => ?_)
  · obtain ⟨_, _, _, _, _, rfl, _⟩ := h
    rfl
  · obtain ⟨p, cl, a, n, its, rfl, z, ln, ha, ap, l4, q⟩ := h
    refine ⟨_, (pss_cons (ps_set (i := 2) sc_law_hidden.nd rfl (by first | exact Or.inl rfl | exact Or.inr rfl) (pe_ix ix_list (pe_lst (pa_cons pe_int (pa_cons pe_int (pa_cons pe_int pa_nil)))) (pe_callH G_law_draw (hr.mono (by omega)) (by rfl) (pa_cons (pv 0) (pa_cons pe_int pa_nil))) (fun _ _ => rfl)))
    (pss_cons (ps_set (i := 3) sc_law_hidden.nd rfl (by first | exact Or.inl rfl | exact Or.inr rfl) (pe_lst pa_nil))
    (pss_cons (ps_for PassesOwn.never rfl (pi_zip (by rfl) T.n_zip (pa_cons (pv 1) (pa_cons (pe_callH G_law_actions (hr.mono (by omega)) (by rfl) (pa_cons (pv 1) pa_nil)) pa_nil))) (pg_tup rfl (pgs_cons (pg_name (i := 4) sc_law_hidden.nd rfl (by first | exact Or.inl rfl | exact Or.inr rfl)) (pgs_cons (pg_name (i := 5) sc_law_hidden.nd rfl (by first | exact Or.inl rfl | exact Or.inr rfl)) pgs_nil)))
      (pss_one (ps_expr (pe_bm PySem.F.plainAttrs_list PySem.F.slot_list_append PySem.F.type_list_append mt_append (pv 3) (pa_cons (pe_tup (pa_cons (pe_ifExp (pt_cmpR op_eq (pe_callH G_law_draw (hr.mono (by omega)) (by rfl) (pa_cons (pv 0) (pa_cons (pv 2) pa_nil))) pe_int (nomark _)) pe_non (pv 4)) (pa_cons (pv 5) pa_nil))) pa_nil)))))
    (pss_one (ps_ret (pv 3)))))), ?_⟩
    refine ⟨(by show 3 ≤ sizeLine; decide), fun e ne => ⟨_, rfl, p, cl, n, 3, rfl, z.same (same_upd ne), by omega, by decide, by decide, fun H2 r b2 z2 r0 r1 => ?_⟩⟩
    have he := b2 _ _ (z.ne ne) (upd_same (H := H) (a := e) (o := .lst [.int 1, .int 2, .int 5]))
    have B2 : But p H H2 := (Same.but (same_upd ne)).trans b2
    have ha2 := B2 _ _ ap ha
    obtain ⟨g, hg, g1, g2⟩ := pick3 r r0 r1 1 2 5 (fun g => 1 ≤ g ∧ g ≤ 8) (by decide) (by decide) (by decide)
    refine ⟨e, _, r, _, rfl, rfl, .of he, hg, ?_⟩
    clear hg he b2
    refine ⟨Nat.zero_le _, fun L nL => ?_⟩
    have nLp := z2.ne nL
    have nLk : a ≠ L := ne_of_none ha2 nL
    have sL := same_upd (o := .lst []) nL
    have hL0 : (upd H2 L (.lst [])) L = some (.lst []) := upd_same
    obtain ⟨qb, hb1, hb2, _⟩ := id z2
    have cL : cl ≠ L := ne_of_none hb2 nL
    have zL := z2.same sL
    have BL : But p H (upd H2 L (.lst [])) := B2.trans (Same.but sL)
    have nLH : H L = none := frB B2 z2 nL
    have ha3 := sL _ _ ha2
    generalize upd H2 L (.lst []) = H3 at *
    refine ⟨_, rfl, _, rfl, a, its, rfl, ha3, l4, fun H4 b s4 nb hb => ?_⟩
    have lact : (actI "" 0 its).length = its.length := actI_len ..
    have bL0 : b ≠ L := fun z => by rw [z, hL0] at nb; cases nb
    have bp : b ≠ p := zL.ne nb
    have ha4 := s4 _ _ ha3
    have hL4 := s4 _ _ hL0
    have z4 := zL.same s4
    have B4 : But p H H4 := BL.trans (Same.but s4)
    have lxy : (its.map V.str).length = ((actI "" 0 its).map fun b => V.str (actS b)).length := by rw [List.length_map, List.length_map, lact]
    refine ⟨a, b, _, _, rfl, .of ha4, .of hb, RZ.for_zipL (K := K) lxy (fun i σ H' => ∃ y4 y5 xs es, σ = [some (.ref p), some (.ref a), some (.int g), some (.ref L), y4, y5] ∧ But p H H' ∧ H' a = some (.lst (its.map V.str)) ∧ H' b = some (.lst ((actI "" 0 its).map fun b => V.str (actS b))) ∧ Bag H' p cl (n + 1 + i) ∧ H' L = some (.lst xs) ∧ xs.length = i ∧ Paired (EnV H') xs es ∧ Paired LeE es ((recI "" 0 its).take i))
      ⟨none, none, [], [], rfl, B4, ha4, hb, z4, hL4, rfl, .nil, .nil⟩ (fun i σ H' hP => ?_) (fun i x y T σ H5 ex ey hP nT => ?_) (fun σ H5 hP => ?_)⟩
    · obtain ⟨_, _, _, _, _, _, h1, h2, _⟩ := hP
      exact ⟨.of h1, .of h2⟩
    · obtain ⟨y4, y5, xs, es, rfl, b5, ha5, hb5, z5, hL5, lxs, hp5, hle⟩ := hP
      obtain ⟨k, ek, rfl⟩ := str_at ex
      rw [List.getElem?_map] at ey
      obtain ⟨c, ec, rfl⟩ := Option.map_eq_some_iff.mp ey
      have hi : i < its.length := (List.getElem?_eq_some_iff.mp ek).1
      have er := recI_at ek ec
      have sT := same_upd (o := .tup [.str k, .str (actS c)]) nT
      have hT : (upd H5 T (.tup [.str k, .str (actS c)])) T = some (.tup [.str k, .str (actS c)]) := upd_same
      have nTp := z5.ne nT
      have z6 := z5.same sT
      have ha6 := sT _ _ ha5
      have hb6 := sT _ _ hb5
      have hL6 := sT _ _ hL5
      have hp6 := Paired.imp (fun _ _ z => EnV.same sT z) hp5
      have b6 : But p H _ := b5.trans (Same.but sT)
      generalize upd H5 T (.tup [.str k, .str (actS c)]) = H6 at *
      refine ⟨T, _, rfl, .of hT, rfl, _, _, rfl, _, _, rfl, rfl, ?_⟩
      refine ⟨_, rfl, .inl ⟨rfl, _, SqL.of hL6⟩, _, rfl, _, rfl, p, cl, n + 1 + i, g, rfl, z6, by omega, g1, wideB (by omega) (by omega), fun H7 r7 b7 z7 r70 r71 => ?_⟩
      have bL : L ≠ p := nLp
      have ha7 := b7 _ _ ap ha6
      have hb7 := b7 _ _ bp hb6
      have hL7 := b7 _ _ bL hL6
      have hp7 := Paired.imp (fun _ _ z => EnV.bagT z6 b7 z) hp6
      have B7 := b6.trans b7
      have fin : ∀ o : Option Str, (o = none ∨ o = some k) → ∀ t, H7 t = none → ∃ y4 y5 xs' es', [some (V.ref p), some (.ref a), some (.int g), some (.ref L), some (.str k), some (.str (actS c))] = [some (.ref p), some (.ref a), some (.int g), some (.ref L), y4, y5] ∧ But p H (upd (upd H7 t (.tup [koV o, .str (actS c)])) L (.lst (xs ++ [.ref t]))) ∧ (upd (upd H7 t (.tup [koV o, .str (actS c)])) L (.lst (xs ++ [.ref t]))) a = some (.lst (its.map V.str)) ∧ (upd (upd H7 t (.tup [koV o, .str (actS c)])) L (.lst (xs ++ [.ref t]))) b = some (.lst ((actI "" 0 its).map fun b => V.str (actS b))) ∧ Bag (upd (upd H7 t (.tup [koV o, .str (actS c)])) L (.lst (xs ++ [.ref t]))) p cl (n + 1 + (i + 1)) ∧ (upd (upd H7 t (.tup [koV o, .str (actS c)])) L (.lst (xs ++ [.ref t]))) L = some (.lst xs') ∧ xs'.length = i + 1 ∧ Paired (EnV (upd (upd H7 t (.tup [koV o, .str (actS c)])) L (.lst (xs ++ [.ref t])))) xs' es' ∧ Paired LeE es' ((recI "" 0 its).take (i + 1)) := fun o ho t nt => by
        have st := same_upd (o := .tup [koV o, .str (actS c)]) nt
        have hLt := st _ _ hL7
        refine ⟨_, _, xs ++ [.ref t], es ++ [(o, c)], rfl, fun x u nx e => ?_, ?_, ?_, ?_, upd_same, by rw [List.length_append, lxs]; rfl, ?_, ?_⟩
        · rw [upd_ne (ne_of_none e nLH)]
          exact st _ _ (B7 _ _ nx e)
        · rw [upd_ne nLk]
          exact st _ _ ha7
        · rw [upd_ne bL0]
          exact st _ _ hb7
        · exact ((z7.same st).keep (fun o e => by rw [upd_ne nLp.symm]; exact e) (fun o e => by rw [upd_ne cL]; exact e)).mono (by omega)
        · exact Paired.app (Paired.imp (fun _ _ z => EnV.grow hLt (EnV.same st z)) hp7) (.cons (EnV.grow hLt ⟨t, rfl, upd_same⟩) .nil)
        · rw [take_snoc er]
          exact Paired.app hle (.cons ⟨rfl, ho⟩ .nil)
      refine ⟨rfl, _, rfl, ?_⟩
      by_cases c0 : r7 = 0
      · refine iteP (decide_eq_true (by rw [c0])) ⟨_, rfl, (by show 2 ≤ sizeLine; decide), fun t nt => ⟨L, _, _, rfl, rfl, same_upd nt _ _ hL7, small (by omega), fin none (.inl rfl) t nt⟩⟩
      · refine iteN (decide_eq_false fun z => c0 (V.int.inj z)) ⟨_, rfl, _, rfl, (by show 2 ≤ sizeLine; decide), fun t nt => ⟨L, _, _, rfl, rfl, same_upd nt _ _ hL7, small (by omega), fin (some k) (.inr rfl) t nt⟩⟩
    · obtain ⟨y4, y5, xs, es, rfl, b5, ha5, hb5, z5, hL5, lxs, hp5, hle⟩ := hP
      rw [List.length_map, List.take_of_length_le (by have := congrArg List.length (recI_act its "" 0); rw [List.length_map, lact] at this; omega)] at hle
      rw [List.length_map] at z5
      exact ⟨_, rfl, q H5 L es b5 (z5.mono (by omega)) nLH nLp ⟨xs, hL5, hp5⟩ hle⟩
end
end UP

set_option Elab.async false
set_option linter.all false
set_option maxRecDepth 100000
set_option maxHeartbeats 4000000
set_option pp.maxSteps 600
namespace UP
open PySem PySem.Spec PyProof.Rows L2
theorem atN2 {α : Type} {x y : α} {r : Int} (h0 : 0 ≤ r) (h1 : r < 2) : atI [x, y] r = some x ∨ atI [x, y] r = some y := by
  rcases (show r = 0 ∨ r = 1 by omega) with e | e
  · subst e; exact .inl rfl
  · subst e; exact .inr rfl
theorem rec_grow {p D : Addr} {H H' : Hp} {xs : List V} {es : List En} (b : But D H H') (hD : ∃ l, H D = some (.lst l)) (h : Paired (EnV H) xs es) : Paired (EnV H') xs es := by
  obtain ⟨l, hD⟩ := hD
  exact Paired.imp (fun _ _ z => z.tk fun t ys e => b _ _ (ne_of e hD (by intro y; cases y)) e) h
theorem pickK {ks : List Str} {r : Int} (h0 : 0 ≤ r) (h1 : r < ks.length + 2) : ∃ ko : Option Str, atI ([V.non, V.non] ++ ks.map V.str) r = some (koV ko) ∧ ∀ k, ko = some k → k ∈ ks := by
  rcases (show r = 0 ∨ r = 1 ∨ 2 ≤ r by omega) with e | e | e
  · subst e; exact ⟨none, atI_ofB (by decide) rfl, fun k h => by cases h⟩
  · subst e; exact ⟨none, atI_ofB (by decide) rfl, fun k h => by cases h⟩
  · have l : r.toNat - 2 < ks.length := by omega
    refine ⟨some ks[r.toNat - 2], atI_ofB h0 ?_, fun k h => Option.some.inj h ▸ List.getElem_mem l⟩
    rw [List.getElem?_append_right (by show 2 ≤ r.toNat; omega)]
    show (ks.map V.str)[r.toNat - 2]? = _
    rw [List.getElem?_map, List.getElem?_eq_getElem l]
    rfl
section
variable {P : Program} {w : World} {K : PySem.W.Frag} {mg : Str → Option Value} {base : Heap}
/-! _law_any_record: slots 0:bag 1:kinds 2:count 3:step 4:found 5:level 6:kind 7:action -/
abbrev s_law_any_record : Stmt := topS 43
theorem sc_law_any_record : FnScope ["bag", "kinds", "count", "step", "found", "level", "kind", "action"] ["bag", "kinds", "count"] (defScope s_law_any_record) := ⟨rfl, rfl, rfl, by decide +kernel, rfl, by decide +kernel, by decide +kernel⟩
def sp_law_any_record : Sp := fun vs H Q _ => ∃ (p cl ka : Addr) (n m : Nat) (ks : List Str), vs = [.ref p, .ref ka, .int (m : Nat)] ∧ Bag H p cl n ∧ n ≤ 100000000 ∧ H ka = some (.lst (ks.map V.str)) ∧ ka ≠ p ∧ ks.length ≤ 12 ∧ m ≤ 400 ∧
  ∀ (H' : Hp) (L : Addr) (es : List En), But p H H' → Bag H' p cl (n + 1200) → H L = none → L ≠ p → Rec H' L es → InK ks es → es.length = m → Q (.ref L) H'
theorem ok_law_any_record (D : Df K mg "_law_any_record" s_law_any_record) (T : Tx mg) (G_law_draw : Has P w K mg base 2 "_law_draw" ["bag", "bound"] sp_law_draw) : Has P w K mg base 3 "_law_any_record" ["bag", "kinds", "count"] sp_law_any_record := by
  refine has_of D sc_law_any_record (fun _ _ _ _ _ _ us hl => match us, hl with | [_, _, _], _ => rfl) (fun vs H Q E h => ?_) (fun f cdv A outer s₀ H vs Q E hr h => ?_)
  · obtain ⟨_, _, _, _, _, _, rfl, _⟩ := h
    rfl
  · obtain ⟨p, cl, ka, n, m, ks, rfl, z, ln, hka, kap, k12, m4, q⟩ := h
    refine ⟨_, (pss_cons (ps_par (i := 4) (j := 5) (by rfl) sc_law_any_record.nd rfl rfl (by decide) rfl rfl (pa_cons (pe_lst pa_nil) (pa_cons pe_int pa_nil)) (by rfl))
    (pss_cons (ps_for PassesOwn.never rfl (pi_range1 (by rfl) T.n_range (pa_cons (pv 2) pa_nil)) (pg_name (i := 3) sc_law_any_record.nd rfl (by first | exact Or.inl rfl | exact Or.inr rfl))
      (pss_cons (ps_set (i := 6) sc_law_any_record.nd rfl (by first | exact Or.inl rfl | exact Or.inr rfl) (pe_ix ix_list (pe_op op_cat (pe_lst (pa_cons pe_non (pa_cons pe_non pa_nil))) (pv 1)) (pe_callH G_law_draw (hr.mono (by omega)) (by rfl) (pa_cons (pv 0) (pa_cons (pe_op op_add (pe_callB call_len_seq (by rfl) T.n_len (by decide +kernel) (pa_cons (pv 1) pa_nil)) pe_int) pa_nil))) (fun _ _ => rfl)))
    (pss_cons (ps_set (i := 7) sc_law_any_record.nd rfl (by first | exact Or.inl rfl | exact Or.inr rfl) (pe_ix ix_list (pe_lst (pa_cons pe_str (pa_cons pe_str pa_nil))) (pe_callH G_law_draw (hr.mono (by omega)) (by rfl) (pa_cons (pv 0) (pa_cons pe_int pa_nil))) (fun _ _ => rfl)))
    (pss_cons (ps_if (PW.pt (pw_and (pt_cmpR op_eq (pv 5) pe_int (nomark _)) (pw_and1 (pt_cmpR op_gt (pe_callH G_law_draw (hr.mono (by omega)) (by rfl) (pa_cons (pv 0) (pa_cons pe_int pa_nil))) pe_int (nomark _))))) (pss_one (ps_set (i := 7) sc_law_any_record.nd rfl (by first | exact Or.inl rfl | exact Or.inr rfl) pe_str)) pss_nil)
    (pss_cons (ps_set (i := 5) sc_law_any_record.nd rfl (by first | exact Or.inl rfl | exact Or.inr rfl) (pe_ifExp (pt_cmpR op_eq (pv 7) pe_str (nomark _)) (pe_op op_add (pv 5) pe_int) (pe_op op_sub (pv 5) pe_int)))
    (pss_one (ps_expr (pe_bm PySem.F.plainAttrs_list PySem.F.slot_list_append PySem.F.type_list_append mt_append (pv 4) (pa_cons (pe_tup (pa_cons (pv 6) (pa_cons (pv 7) pa_nil))) pa_nil)))))))))
    (pss_one (ps_ret (pv 4))))), ?_⟩
    refine ⟨Nat.zero_le _, fun L nL => ?_⟩
    have nLp := z.ne nL
    have kaL : ka ≠ L := ne_of_none hka nL
    have sL := same_upd (o := .lst []) nL
    have hL0 : (upd H L (.lst [])) L = some (.lst []) := upd_same
    obtain ⟨qb, hb1, hb2, _⟩ := id z
    have cL : cl ≠ L := ne_of_none hb2 nL
    have zL := z.same sL
    have BL : But p H (upd H L (.lst [])) := Same.but sL
    generalize upd H L (.lst []) = H1 at *
    refine ⟨_, _, rfl, _, rfl, (m : Int), rfl, by omega, by omega, for_range (lo := 0) (n := m) (fun i σ H' => ∃ (y3 y6 y7 : Option V) (l : Int) (xs : List V) (es : List En), σ = [some (.ref p), some (.ref ka), some (.int (m : Nat)), y3, some (.ref L), some (.int l), y6, y7] ∧ But p H H' ∧ Bag H' p cl (n + 3 * i) ∧ H' L = some (.lst xs) ∧ Paired (EnV H') xs es ∧ InK ks es ∧ es.length = i)
      ⟨none, none, none, 0, [], [], rfl, BL, zL, hL0, .nil, (fun e h => by cases h), rfl⟩ (fun i σ H2 hi hP => ?_) (fun σ H2 hP => ?_)⟩
    · obtain ⟨y3, y6, y7, l, xs, es, rfl, b2, z2, hL, hx, ik, le⟩ := hP
      have hk2 := b2 _ _ kap hka
      have lx := Paired.len hx
      refine ⟨(by show 2 ≤ sizeLine; decide), fun e ne => ⟨_, rfl, e, ka, _, _, rfl, rfl, upd_same, same_upd ne _ _ hk2, smallE (by rw [List.length_map]; show 2 + ks.length ≤ _; omega), fun c nc => ?_⟩⟩
      have sc := (same_upd (o := .lst [.non, .non]) ne).trans (same_upd (o := .lst ([V.non, V.non] ++ ks.map V.str)) nc)
      have hc3 : (upd (upd H2 e (.lst [.non, .non])) c (.lst ([V.non, V.non] ++ ks.map V.str))) c = some (.lst ([V.non, V.non] ++ ks.map V.str)) := upd_same
      have z3 := z2.same sc
      have cp := z2.ne ((same_upd (o := .lst [.non, .non]) ne).free nc)
      have hk3 := sc _ _ hk2
      have b23 := b2.trans (Same.but sc)
      have hL3 := sc _ _ hL
      have hx3 := Paired.imp (fun _ _ z => EnV.same sc z) hx
      generalize upd (upd H2 e (.lst [.non, .non])) c (.lst ([V.non, V.non] ++ ks.map V.str)) = H3 at *
      refine ⟨_, rfl, _, rfl, ka, _, rfl, .inl (.of hk3), _, _, rfl, rfl, p, cl, _, _, rfl, z3, by omega, by rw [List.length_map]; omega, wideB (by rw [List.length_map]; omega) (by rw [List.length_map]; omega), fun H4 r4 b4 z4 r40 r41 => ?_⟩
      rw [List.length_map] at r41
      obtain ⟨ko, ek, hko⟩ := pickK r40 r41
      refine ⟨c, _, r4, _, rfl, rfl, .of (b4 _ _ cp hc3), ek, ?_⟩
      have hL4 := b4 _ _ nLp hL3
      have b24 := b23.trans b4
      have hx4 := Paired.imp (fun _ _ y => EnV.bagT z3 b4 y) hx3
      refine ⟨(by show 2 ≤ sizeLine; decide), fun e2 ne2 => ⟨_, rfl, p, cl, _, 2, rfl, z4.same (same_upd ne2), by omega, by decide, by decide, fun H5 r5 b5 z5 r50 r51 => ?_⟩⟩
      have s2 := same_upd (o := .lst [.str "waits", .str "leaves"]) ne2
      have e2p := z4.ne ne2
      have he5 := b5 _ _ e2p (upd_same (H := H4) (a := e2) (o := .lst [.str "waits", .str "leaves"]))
      have hL5 := b5 _ _ nLp (s2 _ _ hL4)
      have b25 := b24.trans ((Same.but s2).trans b5)
      have hx5 := Paired.imp (fun _ _ y => EnV.bagT (z4.same s2) b5 (EnV.same s2 y)) hx4
      obtain ⟨ac, hac⟩ : ∃ ac : Bool, atI [V.str "waits", V.str "leaves"] r5 = some (.str (actS ac)) := by
        rcases atN2 (x := V.str "waits") (y := V.str "leaves") r50 r51 with q | q
        · exact ⟨true, q⟩
        · exact ⟨false, q⟩
      refine ⟨e2, _, r5, _, rfl, rfl, .of he5, hac, ?_⟩
      dsimp only
      refine if_gen (fun σ' H' => ∃ ac : Bool, σ' = [some (.ref p), some (.ref ka), some (.int (m : Nat)), some (.int (0 + (i : Int))), some (.ref L), some (.int l), some (koV ko), some (.str (actS ac))] ∧ But p H H' ∧ Bag H' p cl (n + 3 * i + 3) ∧ H' L = some (.lst xs) ∧ Paired (EnV H') xs es) (fun R hR => ?_) (fun σ' H6 hO => ?_)
      · refine ⟨_, rfl, rfl, _, rfl, ite2 (fun c => ?_) (fun c => ?_)⟩
        · refine ⟨_, rfl, p, cl, _, 30, rfl, z5, by omega, by decide, by decide, fun H6 r6 b6 z6 r60 r61 => ?_⟩
          have k6 : But p H H6 ∧ Bag H6 p cl (n + 3 * i + 3) ∧ H6 L = some (.lst xs) ∧ Paired (EnV H6) xs es := ⟨b25.trans b6, z6.mono (by omega), b6 _ _ nLp hL5, Paired.imp (fun _ _ y => EnV.bagT z5 b6 y) hx5⟩
          refine ⟨r6, 0, rfl, rfl, _, rfl, ite2 (fun c => ?_) (fun c => ?_)⟩
          · exact hR _ _ ⟨true, rfl, k6⟩
          · exact hR _ _ ⟨ac, rfl, k6⟩
        · exact hR _ _ ⟨ac, rfl, b25, z5.mono (by omega), hL5, hx5⟩
      · obtain ⟨ac, rfl, b6, z6, hL6, hx6⟩ := hO
        have fin : ∀ (l' : Int) (t : Addr), H6 t = none → ∃ ls, (upd H6 t (.tup [koV ko, .str (actS ac)])) L = some (.lst ls) ∧ ls.length < sizeLine ∧ ∃ (y3 y6 y7 : Option V) (l : Int) (xs' : List V) (es' : List En), [some (V.ref p), some (V.ref ka), some (V.int (m : Nat)), some (V.int (0 + (i : Int))), some (V.ref L), some (V.int l'), some (koV ko), some (V.str (actS ac))] = [some (.ref p), some (.ref ka), some (.int (m : Nat)), y3, some (.ref L), some (.int l), y6, y7] ∧ But p H (upd (upd H6 t (.tup [koV ko, .str (actS ac)])) L (.lst (ls ++ [.ref t]))) ∧ Bag (upd (upd H6 t (.tup [koV ko, .str (actS ac)])) L (.lst (ls ++ [.ref t]))) p cl (n + 3 * (i + 1)) ∧ (upd (upd H6 t (.tup [koV ko, .str (actS ac)])) L (.lst (ls ++ [.ref t]))) L = some (.lst xs') ∧ Paired (EnV (upd (upd H6 t (.tup [koV ko, .str (actS ac)])) L (.lst (ls ++ [.ref t])))) xs' es' ∧ InK ks es' ∧ es'.length = i + 1 := fun l' t nt => by
          have st := same_upd (o := .tup [koV ko, .str (actS ac)]) nt
          have hLt := st _ _ hL6
          refine ⟨xs, hLt, small (by omega), _, _, _, l', xs ++ [.ref t], es ++ [(ko, ac)], rfl, ?_, ?_, upd_same, ?_, ?_, by rw [List.length_append, le]; rfl⟩
          · intro c o nc e
            have e1 : c ≠ L := ne_of_none e nL
            rw [upd_ne e1]
            exact st _ _ (b6 _ _ nc e)
          · exact ((z6.same st).keep (fun o e => by rw [upd_ne nLp.symm]; exact e) (fun o e => by rw [upd_ne cL]; exact e)).mono (by omega)
          · exact Paired.app (Paired.imp (fun _ _ y => EnV.grow hLt (EnV.same st y)) hx6) (.cons (EnV.grow hLt ⟨t, rfl, upd_same⟩) .nil)
          · intro e he
            rcases List.mem_append.mp he with y | y
            · exact ik e y
            · cases List.mem_singleton.mp y
              exact hko
        refine ⟨_, rfl, rfl, _, rfl, ?_⟩
        cases ac with
        | true =>
          refine iteP (decide_eq_true rfl) ⟨_, rfl, _, _, rfl, rfl, _, rfl, .inl ⟨rfl, _, SqL.of hL6⟩, _, rfl, _, rfl, (by show 2 ≤ sizeLine; decide), fun t nt => ?_⟩
          obtain ⟨ls, h1, h2, h3⟩ := fin (l + 1) t nt
          exact ⟨L, _, _, rfl, rfl, h1, h2, h3⟩
        | false =>
          refine iteN (decide_eq_false (show ¬ (V.str (actS false) = V.str (actS true)) by decide +kernel)) ⟨_, rfl, _, _, rfl, rfl, _, rfl, .inl ⟨rfl, _, SqL.of hL6⟩, _, rfl, _, rfl, (by show 2 ≤ sizeLine; decide), fun t nt => ?_⟩
          obtain ⟨ls, h1, h2, h3⟩ := fin (l - 1) t nt
          exact ⟨L, _, _, rfl, rfl, h1, h2, h3⟩
    · obtain ⟨y3, y6, y7, l, xs, es, rfl, b2, z2, hL, hx, ik, le⟩ := hP
      exact ⟨_, rfl, q H2 L es b2 (z2.mono (by omega)) nL nLp ⟨xs, hL, hx⟩ ik le⟩
/-! _law_all_lists: slots 0:kinds 1:count 2:found 3:step 4:longer 5:row 6:kind -/
abbrev s_law_all_lists : Stmt := topS 45
theorem sc_law_all_lists : FnScope ["kinds", "count", "found", "step", "longer", "row", "kind"] ["kinds", "count"] (defScope s_law_all_lists) := ⟨rfl, rfl, rfl, by decide +kernel, rfl, by decide +kernel, by decide +kernel⟩
def sp_law_all_lists : Sp := fun vs H Q _ => ∃ (a : Addr) (n : Nat) (ks : List Str), vs = [.ref a, .int (n : Nat)] ∧ H a = some (.lst (ks.map V.str)) ∧ n ≤ 6 ∧ ks.length ≤ 3 ∧
  ∀ H' p refs, Same H H' → H p = none → H' p = some (.lst refs) → Paired (StrsV H') refs (allC ks n) → Q (.ref p) H'
theorem ok_law_all_lists (D : Df K mg "_law_all_lists" s_law_all_lists) (T : Tx mg) : Has P w K mg base 1 "_law_all_lists" ["kinds", "count"] sp_law_all_lists := by
  refine has_of D sc_law_all_lists (fun _ _ _ _ _ _ us hl => match us, hl with | [_, _], _ => rfl) (fun vs H Q E h => ?_) (fun f cdv A outer s₀ H vs Q E hr h => ?_)
  · obtain ⟨_, _, _, rfl, _⟩ := h
    rfl
  · obtain ⟨a, n, ks, rfl, ha, n6, k3, q⟩ := h
    refine ⟨_, (pss_cons (ps_set (i := 2) sc_law_all_lists.nd rfl (by first | exact Or.inl rfl | exact Or.inr rfl) (pe_lst (pa_cons (pe_lst pa_nil) pa_nil)))
    (pss_cons (ps_for PassesOwn.never rfl (pi_range1 (by rfl) T.n_range (pa_cons (pv 1) pa_nil)) (pg_name (i := 3) sc_law_all_lists.nd rfl (by first | exact Or.inl rfl | exact Or.inr rfl))
      (pss_cons (ps_set (i := 4) sc_law_all_lists.nd rfl (by first | exact Or.inl rfl | exact Or.inr rfl) (pe_lst pa_nil))
    (pss_cons (ps_for PassesOwn.never rfl (pi_list (pv 2)) (pg_name (i := 5) sc_law_all_lists.nd rfl (by first | exact Or.inl rfl | exact Or.inr rfl))
      (pss_one (ps_expr (pe_bm PySem.F.plainAttrs_list PySem.F.slot_list_extend PySem.F.type_list_extend mt_extend (pv 4) (pa_cons (pe_lc (own := [("kind", 6)]) rfl sc_law_all_lists.nd (pi_list (pv 0)) (blkOk_by (N := ["kinds", "count", "found", "step", "longer", "row", "kind"]) (sc := defScope s_law_all_lists) (by decide +kernel)) (fun _ _ _ _ _ => (pg_name (i := 6) sc_law_all_lists.nd rfl (by first | exact Or.inl rfl | exact Or.inr rfl))) (fun _ _ _ _ _ => pts_nil) (fun _ _ _ _ _ => (pe_op op_cat (pv 5) (pe_lst (pa_cons (pv 6) pa_nil))))) pa_nil)))))
    (pss_one (ps_set (i := 2) sc_law_all_lists.nd rfl (by first | exact Or.inl rfl | exact Or.inr rfl) (pv 4))))))
    (pss_one (ps_ret (pv 2))))), ?_⟩
    have pw : ∀ j, j ≤ 6 → (allC ks j).length ≤ 729 := fun j hj => by
      rw [allC_len]
      exact Nat.le_trans (Nat.pow_le_pow_left k3 j) (Nat.le_trans (Nat.pow_le_pow_right (by decide) hj) (by decide))
    refine ⟨Nat.zero_le _, fun e ne => ⟨(by show 1 ≤ sizeLine; decide), fun F nF => ?_⟩⟩
    have sF := (same_upd (o := .lst []) ne).trans (same_upd (o := .lst [.ref e]) nF)
    have hF0 : (upd (upd H e (.lst [])) F (.lst [.ref e])) F = some (.lst [.ref e]) := upd_same
    have he0 : (upd (upd H e (.lst [])) F (.lst [.ref e])) e = some (.lst []) := same_upd nF _ _ upd_same
    have nFH : H F = none := (same_upd (o := .lst []) ne).free nF
    generalize upd (upd H e (.lst [])) F (.lst [.ref e]) = H1 at *
    refine ⟨_, rfl, (n : Int), rfl, by omega, by omega, for_range (lo := 0) (n := n) (fun j σ H' => ∃ (y3 y4 y5 : Option V) (G : Addr) (refs : List V), σ = [some (.ref a), some (.int (n : Nat)), some (.ref G), y3, y4, y5, none] ∧ Same H H' ∧ H G = none ∧ H' G = some (.lst refs) ∧ Paired (StrsV H') refs (allC ks j))
      ⟨none, none, none, F, [.ref e], rfl, sF, nFH, hF0, .cons ⟨e, rfl, he0⟩ .nil⟩ (fun j σ H2 hj hP => ?_) (fun σ H2 hP => ?_)⟩
    · obtain ⟨y3, y4, y5, G, refs, rfl, s2, nG, hG, hr2⟩ := hP
      have hj : j < n := hj
      have lr := Paired.len hr2
      have lj := pw j (by omega)
      have lj1 := pw (j + 1) (by omega)
      refine ⟨Nat.zero_le _, fun L nL => ?_⟩
      have nLH : H L = none := s2.free nL
      have GL : G ≠ L := ne_of_none hG nL
      have aL : a ≠ L := ne_of_none ha nLH
      have s3 := s2.trans (same_upd (o := .lst []) nL)
      have hL3 : (upd H2 L (.lst [])) L = some (.lst []) := upd_same
      have hG3 := same_upd (o := .lst []) nL _ _ hG
      have hr3 := Paired.imp (fun _ _ z => StrsV.same (same_upd (o := .lst []) nL) z) hr2
      have rL : ∀ t, V.ref t ∈ refs → t ≠ L := fun t ht => by
        obtain ⟨i, hi⟩ := List.getElem?_of_mem ht
        obtain ⟨row, _, t', e', h'⟩ := Paired.at hr2 hi
        cases e'
        exact ne_of_none h' nL
      generalize upd H2 L (.lst []) = H3 at *
      refine ⟨_, rfl, G, rfl, ⟨_, .of hG3⟩, for_list (K := K) (a := G) (xs := refs) (fun k σ H' => ∃ (y5 : Option V) (rs : List V), σ = [some (.ref a), some (.int (n : Nat)), some (.ref G), some (.int (0 + (j : Int))), some (.ref L), y5, none] ∧ But L H3 H' ∧ H' L = some (.lst rs) ∧ Paired (StrsV H') rs (((allC ks j).take k).flatMap fun r => ks.map fun x => r ++ [x]) ∧ ∀ t, V.ref t ∈ rs → t ≠ L) ⟨y5, [], rfl, But.refl, hL3, .nil, (fun t h => by cases h)⟩ (fun k σ H' _ hP => ?_) (fun k x σ H4 ex hP => ?_) (fun σ H4 hP => ?_)⟩
      · obtain ⟨_, _, _, b4, _⟩ := hP
        exact .of (b4 _ _ GL hG3)
      · obtain ⟨y5, rs, rfl, b4, hL4, hrs, nrs⟩ := hP
        obtain ⟨row, er, t, rfl, ht⟩ := Paired.at hr3 ex
        have lrow : row.length ≤ 6 := by
          have := (allC_mem (List.mem_of_getElem? er)).1
          omega
        have tL := rL t (List.mem_of_getElem? ex)
        have ht4 := b4 _ _ tL ht
        have ha4 := b4 _ _ aL (s3 _ _ ha)
        have lrs := Paired.len hrs
        have lrs1 : rs.length + ks.length ≤ 729 := by
          have e1 : (((allC ks j).take (k + 1)).flatMap fun r => ks.map fun x => r ++ [x]).length ≤ (allC ks (j + 1)).length := by
            rw [allC_snoc]
            conv => rhs; rw [← List.take_append_drop (k + 1) (allC ks j), List.flatMap_append, List.length_append]
            omega
          rw [take_snoc er, List.flatMap_append, List.length_append, List.flatMap_cons, List.flatMap_nil, List.append_nil, List.length_map, ← lrs] at e1
          omega
        rw [take_snoc er, List.flatMap_append, List.flatMap_cons, List.flatMap_nil, List.append_nil]
        generalize ((allC ks j).take k).flatMap (fun r => ks.map fun x => r ++ [x]) = os at *
        refine ⟨_, rfl, .inl ⟨rfl, _, SqL.of hL4⟩, _, rfl, a, rfl, ⟨_, .of ha4⟩, fun C nC => lc_list (K := K) (a := a) (xs := ks.map V.str) (fun i H' => Same H4 H' ∧ ∃ ls, H' C = some (.lst ls) ∧ Paired (StrsV H') ls ((ks.take i).map fun x => row ++ [x]) ∧ ∀ t, V.ref t ∈ ls → t ≠ C ∧ H4 t = none) ⟨same_upd nC, [], upd_same, .nil, (fun t h => by cases h)⟩ (fun i H' _ p => .of (p.1 _ _ ha4)) (fun i x H5 ex p => ?_) (fun H5 p => ?_)⟩
        · obtain ⟨s5, ls, hC, hls, nls⟩ := p
          obtain ⟨x, ek, rfl⟩ := str_at ex
          have hi : i < ks.length := (List.getElem?_eq_some_iff.mp ek).1
          have lls := Paired.len hls
          rw [List.length_map, List.length_take] at lls
          refine ⟨rfl, yesT ⟨_, rfl, _, rfl, (by show 1 ≤ sizeLine; decide), fun e2 ne2 => ⟨t, e2, _, _, rfl, rfl, same_upd ne2 _ _ (s5 _ _ ht4), upd_same, smallE (by rw [List.length_map]; show row.length + 1 ≤ _; omega), fun q2 nq => ?_⟩⟩⟩
          have sq := (same_upd (o := .lst [.str x]) ne2).trans (same_upd (o := .lst (row.map V.str ++ [.str x])) nq)
          have nq5 : H5 q2 = none := (same_upd (o := .lst [.str x]) ne2).free nq
          have qC : q2 ≠ C := fun z => by rw [z, hC] at nq5; cases nq5
          refine ⟨_, sq _ _ hC, small (by omega), same_grow nC (s5.trans sq), ls ++ [.ref q2], upd_same, ?_, ?_⟩
          · rw [take_snoc ek, List.map_append]
            refine strs_but (D := C) but_upd (Paired.app (Paired.imp (fun _ _ z => StrsV.same sq z) hls) (.cons ⟨q2, rfl, ?_⟩ .nil)) fun t ht => ?_
            · rw [upd_same, List.map_append]
              rfl
            · rcases List.mem_append.mp ht with z | z
              · exact (nls t z).1
              · cases List.mem_singleton.mp z
                exact qC
          · intro t ht
            rcases List.mem_append.mp ht with z | z
            · exact nls t z
            · cases List.mem_singleton.mp z
              exact ⟨qC, s5.free nq5⟩
        · obtain ⟨s5, ls, hC, hls, nls⟩ := p
          rw [List.length_map, List.take_length] at hls
          have lls := Paired.len hls
          rw [List.length_map] at lls
          refine ⟨L, C, _, _, rfl, rfl, s5 _ _ hL4, hC, smallE (by omega), _, _, rfl, b4.trans ((Same.but s5).trans but_upd), upd_same, ?_, ?_⟩
          · refine strs_but (D := L) but_upd (Paired.app (Paired.imp (fun _ _ z => StrsV.same s5 z) hrs) hls) fun t ht => ?_
            rcases List.mem_append.mp ht with z | z
            · exact nrs t z
            · exact fun y => by have := (nls t z).2; rw [y, hL4] at this; cases this
          · intro t ht
            rcases List.mem_append.mp ht with z | z
            · exact nrs t z
            · exact fun y => by have := (nls t z).2; rw [y, hL4] at this; cases this
      · obtain ⟨y5, rs, rfl, b4, hL4, hrs, nrs⟩ := hP
        rw [lr, List.take_length, ← allC_snoc] at hrs
        exact ⟨_, rfl, some (.int (0 + (j : Int))), some (.ref L), y5, L, rs, rfl, fun c o e => b4 _ _ (ne_of_none e nLH) (s3 _ _ e), nLH, hL4, hrs⟩
    · obtain ⟨y3, y4, y5, G, refs, rfl, s2, nG, hG, hr2⟩ := hP
      exact ⟨_, rfl, q _ _ refs s2 nG hG hr2⟩
end
end UP

set_option Elab.async false
set_option linter.all false
set_option maxRecDepth 100000
set_option maxHeartbeats 4000000
set_option pp.maxSteps 600
namespace UP
open PySem PySem.Spec PyProof.Rows L2
theorem pi_listK {X : Cx} {tg l : Expr} {tl : TE} {K : PySem.W.Frag} (h : X.K = K) (hl : PE X l tl) : PI X tg l (iList K tl) := h ▸ pi_list hl
theorem op_eqDK {X : Cx} {K : PySem.W.Frag} (h : X.K = K) (hu : X.A.units + 64 < cLine) : OpR X (compareOp .Eq) (rEqD K) := h ▸ op_eqD hu
/-! ### which lists fit, as the law asks -/
def knA (es : List En) : List (Nat × Str) := es.zipIdx.filterMap fun p => p.1.1.map fun k => (p.2, k)
theorem knA_snoc {es : List En} {i : Nat} {e : En} (h : es[i]? = some e) : knA (es.take (i + 1)) = knA (es.take i) ++ (match e.1 with | none => [] | some k => [(i, k)]) := by
  have hi := (List.getElem?_eq_some_iff.mp h).1
  unfold knA
  rw [take_snoc h, List.zipIdx_append, List.filterMap_append]
  congr 1
  rw [List.length_take, Nat.min_eq_left (Nat.le_of_lt hi)]
  show ([(e, 0 + i)] : List (En × Nat)).filterMap _ = _
  rw [Nat.zero_add, List.filterMap_cons, List.filterMap_nil]
  cases e.1 <;> rfl
theorem knA_len (es : List En) : (knA es).length ≤ es.length := by
  unfold knA
  refine Nat.le_trans (List.length_filterMap_le _ _) ?_
  rw [List.length_zipIdx]
  exact Nat.le_refl _
theorem knA_mem {es : List En} {i : Nat} {k : Str} : (i, k) ∈ knA es ↔ ∃ e, es[i]? = some e ∧ e.1 = some k := by
  unfold knA
  rw [List.mem_filterMap]
  constructor
  · rintro ⟨⟨e, j⟩, hm, h⟩
    have hj := List.mem_zipIdx_iff_getElem?.mp hm
    cases h1 : e.1 with
    | none => rw [show (e, j).1.1 = e.1 from rfl, h1] at h; cases h
    | some k' =>
      rw [show (e, j).1.1 = e.1 from rfl, h1] at h
      cases h
      exact ⟨e, hj, h1⟩
  · rintro ⟨e, he, h⟩
    exact ⟨(e, i), List.mem_zipIdx_iff_getElem?.mpr he, by show e.1.map _ = _; rw [h]; rfl⟩
theorem fit_idx : ∀ {es : List En} {its : List Str} {w : Str} {c : Nat}, its.length = es.length → (FitE w c es its ↔ actI w c its = es.map (·.2) ∧ ∀ (i : Nat) (e : En) (k : Str), es[i]? = some e → e.1 = some k → its[i]? = some k)
  | [], [], w, c, _ => ⟨fun _ => ⟨rfl, fun i e k h _ => by cases i <;> cases h⟩, fun _ => trivial⟩
  | e :: es, x :: its, w, c, l => by
    have ih := fit_idx (es := es) (its := its) (w := nxtW w c x) (c := nxtC w c x) (Nat.succ.inj l)
    constructor
    · rintro ⟨h1, h2, h3⟩
      obtain ⟨a1, a2⟩ := ih.mp h3
      refine ⟨?_, fun i e' k he hk => ?_⟩
      · show staysI w c x :: actI _ _ its = e.2 :: es.map _
        rw [a1, h1]
      · cases i with
        | zero => cases he; exact congrArg some (h2 k hk).symm
        | succ i => exact a2 i e' k he hk
    · rintro ⟨h1, h2⟩
      have h1 : staysI w c x :: actI (nxtW w c x) (nxtC w c x) its = e.2 :: es.map (·.2) := h1
      refine ⟨(List.cons.inj h1).1.symm, fun k hk => ?_, ih.mpr ⟨(List.cons.inj h1).2, fun i e' k he hk => h2 (i + 1) e' k he hk⟩⟩
      exact (Option.some.inj (h2 0 e k rfl hk)).symm
  | [], _ :: _, _, _, l => by cases l
  | _ :: _, [], _, _, l => by cases l
theorem actS_inj {a b : Bool} (h : actS a = actS b) : a = b := by
  cases a <;> cases b <;> first | rfl | (exact absurd h (by decide +kernel))
theorem map_act : ∀ {a b : List Bool}, a.map actS = b.map actS → a = b
  | [], [], _ => rfl
  | x :: a, y :: b, h => by
    obtain ⟨h1, h2⟩ := List.cons.inj h
    rw [actS_inj h1, map_act h2]
  | [], _ :: _, h => by cases h
  | _ :: _, [], h => by cases h
def pA (es : List En) (its : List Str) : Bool := decide ((actI "" 0 its).map actS = es.map fun e => actS e.2)
def pK (es : List En) (its : List Str) : Bool := (knA es).all fun q => decide (its[q.1]? = some q.2)
theorem due_law {ks : List Str} {es : List En} (nd : ks.Nodup) (ik : InK ks es) : ((allC ks es.length).filter (pA es)).filter (pK es) = genE ks (epsE es) := by
  rw [List.filter_filter]
  refine due_gen nd ik fun its l => ?_
  rw [fit_idx l]
  unfold pA pK
  rw [Bool.and_eq_true, List.all_eq_true, decide_eq_true_iff]
  constructor
  · rintro ⟨h1, h2⟩
    refine ⟨map_act (by rw [h2, List.map_map]; rfl), fun i e k he hk => of_decide_eq_true (h1 (i, k) (knA_mem.mpr ⟨e, he, hk⟩))⟩
  · rintro ⟨h1, h2⟩
    refine ⟨fun q hq => ?_, by rw [h1, List.map_map]; rfl⟩
    obtain ⟨e, he, hk⟩ := knA_mem.mp hq
    exact decide_eq_true (h2 _ e _ he hk)
theorem eqvS_dec : ∀ a b : List Str, PyData.eqv (.list (a.map PyData.str)) (.list (b.map PyData.str)) = decide (a = b) := by
  have gen : ∀ a b : List Str, PyData.eqvAll (a.map PyData.str) (b.map PyData.str) = decide (a = b) := by
    intro a
    induction a with
    | nil => intro b; cases b <;> simp [PyData.eqvAll]
    | cons x t ih =>
      intro b
      cases b with
      | nil => simp [PyData.eqvAll]
      | cons y u =>
        rw [List.map_cons, List.map_cons, PyData.eqvAll, ih u]
        by_cases e : x = y
        · subst e
          simp [PyData.eqv]
        · simp [PyData.eqv, e]
  intro a b
  rw [PyData.eqv, gen]
theorem eqv_nilD {ds : List PyData} : PyData.eqv (.list ds) (.list []) = ds.isEmpty := by
  cases ds <;> simp [PyData.eqv, PyData.eqvAll]
theorem dp_ones {K : PySem.W.Frag} {H : Hp} : ∀ m : Nat, DpAll K H (List.replicate m (V.int 1)) (List.replicate m (.int 1))
  | 0 => .nil
  | m + 1 => .cons (.int _) (dp_ones m)
theorem shaped_ones (m : Nat) : SeqAt.shaped (.list (List.replicate m (.int 1))) = true := by
  have c : ∀ m : Nat, PyData.canLayAll0 (List.replicate m (.int 1)) = true ∧ PyData.depthAll (List.replicate m (.int 1)) ≤ 1 := by
    intro m
    induction m with
    | zero => exact ⟨by simp [PyData.canLayAll0], by simp [PyData.depthAll]⟩
    | succ m ih =>
      obtain ⟨h1, h2⟩ := ih
      refine ⟨?_, ?_⟩
      · rw [List.replicate_succ, PyData.canLayAll0, h1]
        decide +kernel
      · rw [List.replicate_succ, PyData.depthAll]
        exact Nat.max_le.mpr ⟨by simp [PyData.depth], h2⟩
  obtain ⟨h1, h2⟩ := c m
  unfold SeqAt.shaped
  rw [PyData.canLay0, h1, PyData.depth]
  exact decide_eq_true (by omega)
theorem act_ok (b : Bool) : KindOk (actS b) := by cases b <;> decide +kernel
theorem acts_ok (l : List Bool) : ∀ s ∈ l.map actS, KindOk s := fun s hs => by
  obtain ⟨b, _, rfl⟩ := List.mem_map.mp hs
  exact act_ok b
def KnV (H : Hp) (v : V) (q : Nat × Str) : Prop := ∃ t, v = .ref t ∧ H t = some (.tup [.int (q.1 : Nat), .str q.2])
theorem KnV.same {H H' : Hp} {v : V} {q : Nat × Str} (s : Same H H') (h : KnV H v q) : KnV H' v q := by
  obtain ⟨t, e, h⟩ := h
  exact ⟨t, e, s _ _ h⟩
theorem KnV.grow {H : Hp} {D : Addr} {acc : List V} {o : HO} {v : V} {q : Nat × Str} (hD : H D = some (.lst acc)) (h : KnV H v q) : KnV (upd H D o) v q := by
  obtain ⟨t, e, h⟩ := h
  exact ⟨t, e, by rw [upd_ne (ne_of h hD (by intro y; cases y))]; exact h⟩
section
variable {P : Program} {w : World} {K : PySem.W.Frag} {mg : Str → Option Value} {base : Heap}
/-! _law_fitting: slots 0:kinds 1:record 2:actions 3:some 4:known 5:one 6:row 7:at 8:kind -/
abbrev s_law_fitting : Stmt := topS 46
theorem sc_law_fitting : FnScope ["kinds", "record", "actions", "some", "known", "one", "row", "at", "kind"] ["kinds", "record"] (defScope s_law_fitting) := ⟨rfl, rfl, rfl, by decide +kernel, rfl, by decide +kernel, by decide +kernel⟩
def sp_law_fitting : Sp := fun vs H Q _ => ∃ (a b : Addr) (ks : List Str) (es : List En), vs = [.ref a, .ref b] ∧ H a = some (.lst (ks.map V.str)) ∧ KsOk ks ∧ ks.length ≤ 3 ∧ Rec H b es ∧ es.length ≤ 6 ∧ InK ks es ∧
  ∀ H' p refs, Same H H' → H p = none → H' p = some (.lst refs) → Paired (StrsV H') refs (genE ks (epsE es)) → Q (.ref p) H'
theorem ok_law_fitting (D : Df K mg "_law_fitting" s_law_fitting) (T : Tx mg) (G_law_all_lists : Has P w K mg base 1 "_law_all_lists" ["kinds", "count"] sp_law_all_lists) (G_law_actions : Has P w K mg base 1 "_law_actions" ["items"] sp_law_actions) : Has P w K mg base 2 "_law_fitting" ["kinds", "record"] sp_law_fitting := by
  refine has_of D sc_law_fitting (fun _ _ _ _ _ _ us hl => match us, hl with | [_, _], _ => rfl) (fun vs H Q E h => ?_) (fun f cdv A outer s₀ H vs Q E hr h => ?_)
  · obtain ⟨_, _, _, _, rfl, _⟩ := h
    rfl
  · obtain ⟨a, b, ks, es, rfl, ha, kso, k3, ⟨xs, hx, hxp⟩, l6, ink, q⟩ := h
    have lx := Paired.len hxp
    refine ⟨_, (pss_cons (ps_set (i := 2) sc_law_fitting.nd rfl (by first | exact Or.inl rfl | exact Or.inr rfl) (pe_lc (own := [("one", 5)]) rfl sc_law_fitting.nd (pi_list (pv 1)) (blkOk_by (N := ["kinds", "record", "actions", "some", "known", "one", "row", "at", "kind"]) (sc := defScope s_law_fitting) (by decide +kernel)) (fun _ _ _ _ _ => (pg_name (i := 5) sc_law_fitting.nd rfl (by first | exact Or.inl rfl | exact Or.inr rfl))) (fun _ _ _ _ _ => pts_nil) (fun _ _ _ _ _ => (pe_ix (ix_tupK (K := K) rfl) (pv 5) pe_int (fun _ _ => rfl)))))
    (pss_cons (ps_setLc (i := 3) (own := [("row", 6)]) rfl sc_law_fitting.nd rfl rfl (sw_true rfl rfl rfl (by decide +kernel)) (pi_list (pe_callH G_law_all_lists (hr.mono (by omega)) (by rfl) (pa_cons (pv 0) (pa_cons (pe_callB call_len_seq (by rfl) T.n_len (by decide +kernel) (pa_cons (pv 1) pa_nil)) pa_nil)))) (blkOk_by (N := ["kinds", "record", "actions", "some", "known", "one", "row", "at", "kind"]) (sc := defScope s_law_fitting) (by decide +kernel)) (fun _ _ _ _ _ => (pg_name (i := 6) sc_law_fitting.nd rfl (by first | exact Or.inl rfl | exact Or.inr rfl))) (fun _ _ _ _ _ => pts_one (pt_cmpR (op_eqDK (K := K) rfl hr.units) (pe_callH G_law_actions (hr.mono (by omega)) (by rfl) (pa_cons (pv 6) pa_nil)) (pv 2) (nomark _))) (fun _ _ _ _ _ => (pv 6)))
    (pss_cons (ps_set (i := 4) sc_law_fitting.nd rfl (by first | exact Or.inl rfl | exact Or.inr rfl) (pe_lc (own := [("at", 7), ("one", 5)]) rfl sc_law_fitting.nd (pi_enum (by rfl) T.n_enumerate (pa_cons (pv 1) pa_nil)) (blkOk_by (N := ["kinds", "record", "actions", "some", "known", "one", "row", "at", "kind"]) (sc := defScope s_law_fitting) (by decide +kernel)) (fun _ _ _ _ _ => (pg_tupK (K := K) (n := 2) rfl rfl (pgs_cons (pg_name (i := 7) sc_law_fitting.nd rfl (by first | exact Or.inl rfl | exact Or.inr rfl)) (pgs_cons (pg_name (i := 5) sc_law_fitting.nd rfl (by first | exact Or.inl rfl | exact Or.inr rfl)) pgs_nil)))) (fun _ _ _ _ _ => pts_one (pt_cmpR op_notN (pe_ix (ix_tupK (K := K) rfl) (pv 5) pe_int (fun _ _ => rfl)) pe_non (nomark _))) (fun _ _ _ _ _ => (pe_tup (pa_cons (pv 7) (pa_cons (pe_ix (ix_tupK (K := K) rfl) (pv 5) pe_int (fun _ _ => rfl)) pa_nil))))))
    (pss_one (ps_ret (pe_lc (own := [("row", 6)]) rfl sc_law_fitting.nd (pi_list (pv 3)) (blkOk_by (N := ["kinds", "record", "actions", "some", "known", "one", "row", "at", "kind"]) (sc := defScope s_law_fitting) (by decide +kernel)) (fun _ _ _ _ _ => (pg_name (i := 6) sc_law_fitting.nd rfl (by first | exact Or.inl rfl | exact Or.inr rfl))) (fun _ _ _ _ _ => pts_one (pt_cmpR (op_eqDK (K := K) rfl hr.units) (pe_lc (own := [("at", 7), ("kind", 8)]) rfl sc_law_fitting.nd (pi_listK (K := K) rfl (pv 4)) (blkOk_by (N := ["kinds", "record", "actions", "some", "known", "one", "row", "at", "kind"]) (sc := relS _ (defScope s_law_fitting)) (by decide +kernel)) (fun _ _ _ _ _ => (pg_tupK (K := K) (n := 2) rfl rfl (pgs_cons (pg_name (i := 7) sc_law_fitting.nd rfl (by first | exact Or.inl rfl | exact Or.inr rfl)) (pgs_cons (pg_name (i := 8) sc_law_fitting.nd rfl (by first | exact Or.inl rfl | exact Or.inr rfl)) pgs_nil)))) (fun _ _ _ _ _ => pts_one (pt_cmpR op_ne (pe_ix (ix_listK (K := K) rfl) (pv 6) (pv 7) (fun _ _ => rfl)) (pv 8) (nomark _))) (fun _ _ _ _ _ => pe_int)) (pe_lst pa_nil) (nomark _))) (fun _ _ _ _ _ => (pv 6)))))))), ?_⟩
    -- actions
    refine ⟨_, rfl, b, rfl, ⟨_, .of hx⟩, fun A1 nA => lc_list (K := K) (a := b) (xs := xs) (fun i H' => Same H H' ∧ H' A1 = some (.lst (((es.take i).map fun e => actS e.2).map V.str))) ⟨same_upd nA, upd_same⟩ (fun i H' _ p => .of (p.1 _ _ hx)) (fun i x H1 ex p => ?_) (fun H1 p => ?_)⟩
    · obtain ⟨sm, hA⟩ := p
      obtain ⟨e, ee, t, rfl, ht⟩ := Paired.at hxp ex
      have hi : i < xs.length := (List.getElem?_eq_some_iff.mp ex).1
      refine ⟨rfl, yesT ⟨_, rfl, t, _, 1, _, rfl, rfl, .of (sm _ _ ht), at1, _, hA, ?_, same_grow nA sm, ?_⟩⟩
      · simp only [List.length_map, List.length_take]
        exact small (by omega)
      · rw [upd_same, take_snoc ee, List.map_append, List.map_append]
        rfl
    obtain ⟨s1, hA⟩ := p
    rw [lx, List.take_length] at hA
    -- the lists with these actions
    have hx1 := s1 _ _ hx
    refine ⟨_, rfl, _, rfl, b, _, rfl, .inl (.of hx1), a, xs.length, ks, rfl, s1 _ _ ha, by omega, k3, fun H2 p2 refs s2 n2 h2 hr2 => ?_⟩
    rw [lx] at hr2
    have lr2 := Paired.len hr2
    have la : (allC ks es.length).length ≤ 729 := by
      rw [allC_len]
      exact Nat.le_trans (Nat.pow_le_pow_left k3 _) (Nat.le_trans (Nat.pow_le_pow_right (by decide) l6) (by decide))
    refine ⟨p2, rfl, ⟨_, .of h2⟩, fun S1 nS => lc_list (K := K) (a := p2) (xs := refs) (fun i H' => Same H2 H' ∧ ∃ rs, H' S1 = some (.lst rs) ∧ Paired (StrsV H') rs (((allC ks es.length).take i).filter (pA es)) ∧ ∀ t, V.ref t ∈ rs → t ≠ S1) ⟨same_upd nS, [], upd_same, .nil, (fun t h => by cases h)⟩ (fun i H' _ p => .of (p.1 _ _ h2)) (fun i x H3 ex p => ?_) (fun H3 p => ?_)⟩
    · obtain ⟨sm, rs, hS, hrs, nrs⟩ := p
      obtain ⟨row, er, t, rfl, ht⟩ := Paired.at hr2 ex
      have hi : i < refs.length := (List.getElem?_eq_some_iff.mp ex).1
      obtain ⟨lrow, krow⟩ := allC_mem (List.mem_of_getElem? er)
      have tS : t ≠ S1 := ne_of_none ht nS
      refine ⟨rfl, _, rfl, t, row, rfl, sm _ _ ht, by omega, fun H4 r s4 nr hr4 => ?_⟩
      have hr4' : H4 r = some (.lst (((actI "" 0 row).map actS).map V.str)) := by rw [hr4, List.map_map]; rfl
      refine ⟨_, rfl, .list (((actI "" 0 row).map actS).map PyData.str), .list ((es.map fun e => actS e.2).map PyData.str), .lst (.of hr4') (dp_strl _), .lst (.of (s4 _ _ (sm _ _ (s2 _ _ hA)))) (dp_strl _), shaped_strl (acts_ok _), shaped_strl (by rw [show (es.map fun e => actS e.2) = (es.map (·.2)).map actS by rw [List.map_map]; rfl]; exact acts_ok _), _, rfl, ?_⟩
      rw [eqvS_dec, filt_snoc er]
      have sm4 := sm.trans s4
      have lrs := Paired.len hrs
      have hrs4 := Paired.imp (fun _ _ z => StrsV.same s4 z) hrs
      have hS4 := s4 _ _ hS
      show (if pA es row = true then _ else _)
      cases pA es row with
      | false =>
        refine iteF ⟨sm4, rs, hS4, ?_, nrs⟩
        rw [if_neg (by decide), List.append_nil]
        exact hrs4
      | true =>
        refine iteT ⟨_, rfl, rs, hS4, ?_, same_grow nS sm4, rs ++ [.ref t], upd_same, ?_, ?_⟩
        · rw [lrs]
          have := List.length_filter_le (pA es) ((allC ks es.length).take i)
          rw [List.length_take] at this
          exact small (by omega)
        · rw [if_pos rfl]
          refine strs_but (D := S1) but_upd (Paired.app hrs4 (.cons ⟨t, rfl, sm4 _ _ ht⟩ .nil)) fun t' ht' => ?_
          rcases List.mem_append.mp ht' with z | z
          · exact nrs t' z
          · cases List.mem_singleton.mp z
            exact tS
        · intro t' ht'
          rcases List.mem_append.mp ht' with z | z
          · exact nrs t' z
          · cases List.mem_singleton.mp z
            exact tS
    obtain ⟨s3, rs, hS, hrs, _⟩ := p
    rw [lr2, List.take_length] at hrs
    have lrs := Paired.len hrs
    have llrs : rs.length ≤ 729 := by
      rw [lrs]
      exact Nat.le_trans (List.length_filter_le _ _) la
    have s13 := s1.trans (s2.trans s3)
    -- what is known
    have hx3 := s13 _ _ hx
    refine ⟨_, rfl, b, _, rfl, .of hx3, fun N1 nN => ?_⟩
    refine lc_gen (n := es.length) (fun i H' => Same H3 H' ∧ ∃ ys, H' N1 = some (.lst ys) ∧ Paired (KnV H') ys (knA (es.take i))) ⟨same_upd nN, [], upd_same, .nil⟩ (fun i H' hi p => ?_) (fun H' p => ?_) (fun i x H4 H5 hi hP hy => ?_) (fun H4 hP => ?_)
    · exact ⟨_, _, .of (p.1 _ _ hx3), List.getElem?_eq_getElem (by omega)⟩
    · exact ⟨_, .of (p.1 _ _ hx3), by omega⟩
    · obtain ⟨sm, ys, hN, hys⟩ := hP
      obtain ⟨T', x', rfl, nT, rfl, fx⟩ := hy
      have ex := fx _ (.of (sm _ _ hx3))
      obtain ⟨e, ee, t, rfl, ht⟩ := Paired.at (Paired.imp (fun _ _ z => EnV.same s13 z) hxp) ex
      have s5 := sm.trans (same_upd (o := .tup [.int ((i : Nat) : Int), .ref t]) nT)
      have hT : (upd H4 T' (.tup [.int ((i : Nat) : Int), .ref t])) T' = some (.tup [.int ((i : Nat) : Int), .ref t]) := upd_same
      have hN5 := same_upd (o := .tup [.int ((i : Nat) : Int), .ref t]) nT _ _ hN
      have hys5 := Paired.imp (fun _ _ z => KnV.same (same_upd (o := .tup [.int ((i : Nat) : Int), .ref t]) nT) z) hys
      have lys : ys.length ≤ 6 := by
        have h1 := Paired.len hys
        have h2 := knA_len (es.take i)
        rw [List.length_take] at h2
        omega
      generalize upd H4 T' (.tup [.int ((i : Nat) : Int), .ref t]) = H5 at *
      rw [knA_snoc ee]
      refine ⟨T', _, rfl, .of hT, rfl, _, _, rfl, _, _, rfl, rfl, rfl, _, rfl, t, _, 0, _, rfl, rfl, .of (s5 _ _ ht), at0, rfl, _, rfl, ?_⟩
      cases e1 : e.1 with
      | none =>
        refine iteN yes_non ⟨s5, ys, hN5, ?_⟩
        show Paired _ ys (knA (es.take i) ++ [])
        rw [List.append_nil]
        exact hys5
      | some k =>
        refine iteP (no_non k) ⟨_, rfl, _, rfl, t, _, 0, _, rfl, rfl, .of (s5 _ _ ht), at0, (by show 2 ≤ sizeLine; decide), fun n nn => ⟨ys, same_upd nn _ _ hN5, small (by omega), same_grow nN (s5.trans (same_upd nn)), ys ++ [.ref n], upd_same, ?_⟩⟩
        rw [e1]
        exact Paired.app (Paired.imp (fun _ _ z => KnV.grow (same_upd nn _ _ hN5) (KnV.same (same_upd nn) z)) hys5) (.cons (KnV.grow (same_upd nn _ _ hN5) ⟨n, rfl, upd_same⟩) .nil)
    obtain ⟨s4, ys, hN, hys⟩ := hP
    rw [List.take_length] at hys
    have lys := Paired.len hys
    have lk := knA_len es
    have hS4 := s4 _ _ hS
    have hrs4 := Paired.imp (fun _ _ z => StrsV.same s4 z) hrs
    have s14 := s13.trans s4
    -- the lists that fit
    refine ⟨_, rfl, S1, rfl, ⟨_, .of hS4⟩, fun R1 nR => lc_list (K := K) (a := S1) (xs := rs) (fun i H' => Same H4 H' ∧ ∃ rs2, H' R1 = some (.lst rs2) ∧ Paired (StrsV H') rs2 ((((allC ks es.length).filter (pA es)).take i).filter (pK es)) ∧ ∀ t, V.ref t ∈ rs2 → t ≠ R1) ⟨same_upd nR, [], upd_same, .nil, (fun t h => by cases h)⟩ (fun i H' _ p => .of (p.1 _ _ hS4)) (fun i x H5 ex p => ?_) (fun H5 p => ?_)⟩
    · obtain ⟨sm, rs2, hR, hrs2, nrs2⟩ := p
      obtain ⟨row, er, t, rfl, ht⟩ := Paired.at hrs4 ex
      have hi : i < rs.length := (List.getElem?_eq_some_iff.mp ex).1
      obtain ⟨lrow, krow⟩ := allC_mem (List.mem_filter.mp (List.mem_of_getElem? er)).1
      have tR : t ≠ R1 := ne_of_none ht nR
      rw [filt_snoc er]
      refine ⟨rfl, _, rfl, N1, rfl, ⟨_, .of (sm _ _ hN)⟩, fun M nM => lc_list (K := K) (a := N1) (xs := ys) (fun j H' => Same H5 H' ∧ ∃ m : Nat, H' M = some (.lst (List.replicate m (.int 1))) ∧ m ≤ j ∧ (m = 0 ↔ ((knA es).take j).all (fun q => decide (row[q.1]? = some q.2)) = true)) ⟨same_upd nM, 0, upd_same, Nat.le_refl _, ⟨(fun _ => rfl), (fun _ => rfl)⟩⟩ (fun j H' _ p => .of (p.1 _ _ (sm _ _ hN))) (fun j x H6 ey p => ?_) (fun H6 p => ?_)⟩
      · obtain ⟨sm6, m, hM, mj, hm⟩ := p
        obtain ⟨q1, eq1, t2, rfl, ht2⟩ := Paired.at hys ey
        have hj : j < ys.length := (List.getElem?_eq_some_iff.mp ey).1
        have l1 : q1.1 < row.length := by
          obtain ⟨e, he, _⟩ := knA_mem.mp (List.mem_of_getElem? eq1)
          rw [lrow]
          exact (List.getElem?_eq_some_iff.mp he).1
        have sq := sm.trans sm6
        have ex1 : row[q1.1]? = some row[q1.1] := List.getElem?_eq_getElem l1
        rw [take_snoc eq1, List.all_append]
        refine ⟨t2, _, rfl, .of (sq _ _ ht2), rfl, _, _, rfl, _, _, rfl, rfl, rfl, _, rfl, _, rfl, t, _, _, _, rfl, rfl, .of (sq _ _ ht), atI_ofB (i := ((q1.1 : Nat) : Int)) (by omega) (by rw [Int.toNat_natCast, List.getElem?_map, ex1]; rfl), _, rfl, rfl, _, rfl, ?_⟩
        have e9 : ([q1].all fun q => decide (row[q.1]? = some q.2)) = decide (row[q1.1] = q1.2) := by
          rw [List.all_cons, List.all_nil, Bool.and_true, ex1]
          exact decide_eq_decide.mpr ⟨fun h => Option.some.inj h, fun h => congrArg some h⟩
        rw [e9, str_dec]
        cases e8 : decide (row[q1.1] = q1.2) with
        | true =>
          refine iteF ⟨sm6, m, hM, Nat.le_succ_of_le mj, ?_⟩
          rw [Bool.and_true]
          exact hm
        | false =>
          refine iteT ⟨_, hM, small (by rw [List.length_replicate]; omega), same_grow nM sm6, m + 1, ?_, by omega, ?_⟩
          · rw [upd_same, List.replicate_succ']
          · rw [Bool.and_false]
            exact ⟨(fun h => by cases h), (fun h => by cases h)⟩
      · obtain ⟨sm6, m, hM, mj, hm⟩ := p
        rw [lys, List.take_length] at hm
        refine ⟨Nat.zero_le _, fun e ne => ?_⟩
        have se := same_upd (o := .lst []) ne
        refine ⟨.list (List.replicate m (.int 1)), .list [], .lst (.of (se _ _ hM)) (dp_ones m), .lst (.of upd_same) .nil, shaped_ones m, shaped_nil, _, rfl, ?_⟩
        rw [eqv_nilD]
        have e7 : (List.replicate m (PyData.int 1)).isEmpty = pK es row := by
          show _ = (knA es).all _
          cases h1 : (knA es).all (fun q => decide (row[q.1]? = some q.2)) with
          | true => rw [hm.mpr h1]; rfl
          | false =>
            cases m with
            | zero => rw [hm.mp rfl] at h1; cases h1
            | succ m => rfl
        rw [e7]
        have sm7 := (sm.trans sm6).trans se
        have hR7 := (sm6.trans se) _ _ hR
        have lrs2 := Paired.len hrs2
        have hrs7 := Paired.imp (fun _ _ z => StrsV.same (sm6.trans se) z) hrs2
        cases pK es row with
        | false =>
          refine iteF ⟨sm7, rs2, hR7, ?_, nrs2⟩
          rw [if_neg (by decide), List.append_nil]
          exact hrs7
        | true =>
          refine iteT ⟨_, rfl, rs2, hR7, ?_, same_grow nR sm7, rs2 ++ [.ref t], upd_same, ?_, ?_⟩
          · rw [lrs2]
            have := List.length_filter_le (pK es) (((allC ks es.length).filter (pA es)).take i)
            rw [List.length_take] at this
            exact small (by omega)
          · rw [if_pos rfl]
            refine strs_but (D := R1) but_upd (Paired.app hrs7 (.cons ⟨t, rfl, sm7 _ _ ht⟩ .nil)) fun t' ht' => ?_
            rcases List.mem_append.mp ht' with z | z
            · exact nrs2 t' z
            · cases List.mem_singleton.mp z
              exact tR
          · intro t' ht'
            rcases List.mem_append.mp ht' with z | z
            · exact nrs2 t' z
            · cases List.mem_singleton.mp z
              exact tR
    · obtain ⟨sm, rs2, hR, hrs2, _⟩ := p
      rw [lrs, List.take_length, due_law (ks_nodup kso) ink] at hrs2
      exact q _ _ rs2 (s14.trans sm) (s14.free nR) hR hrs2
theorem EnG.bagT {H H' : Hp} {pb : Addr} {v : V} {e : En} (b : But pb H H') (n : v ≠ .ref pb) (h : EnG H v e) : EnG H' v e := by
  obtain ⟨t, rfl, h⟩ := h
  have : t ≠ pb := fun z => n (by rw [z])
  exact ⟨t, rfl, h.elim (fun z => .inl (b _ _ this z)) (fun z => .inr (b _ _ this z))⟩
/-! _law_dressed: slots 0:bag 1:record 2:one -/
abbrev s_law_dressed : Stmt := topS 47
theorem sc_law_dressed : FnScope ["bag", "record", "one"] ["bag", "record"] (defScope s_law_dressed) := ⟨rfl, rfl, rfl, by decide +kernel, rfl, by decide +kernel, by decide +kernel⟩
def sp_law_dressed : Sp := fun vs H Q _ => ∃ (pb cl a : Addr) (n : Nat) (es : List En), vs = [.ref pb, .ref a] ∧ Bag H pb cl n ∧ n ≤ 100000000 ∧ Rec H a es ∧ a ≠ pb ∧ es.length ≤ 400 ∧ ∀ H' p, But pb H H' → Bag H' pb cl (n + 500) → p ≠ pb → RecG H' (.ref p) es → (∃ xs, Sq2 H' p xs ∧ Paired (EnG H') xs es ∧ ∀ x ∈ xs, x ≠ .ref pb) → Q (.ref p) H'
theorem ok_law_dressed (D : Df K mg "_law_dressed" s_law_dressed) (G_law_either : Has P w K mg base 3 "_law_either" ["bag", "items"] sp_law_either) : Has P w K mg base 4 "_law_dressed" ["bag", "record"] sp_law_dressed := by
  refine has_of D sc_law_dressed (fun _ _ _ _ _ _ us hl => match us, hl with | [_, _], _ => rfl) (fun vs H Q E h => ?_) (fun f cdv A outer s₀ H vs Q E hr h => ?_)
  · obtain ⟨_, _, _, _, _, rfl, _⟩ := h
    rfl
  · obtain ⟨pb, cl, a, n, es, rfl, z, ln, ⟨xs, hx, hxp⟩, na, l4, q⟩ := h
    have lx := Paired.len hxp
    refine ⟨_, (pss_one (ps_ret (pe_callH G_law_either (hr.mono (by omega)) (by rfl) (pa_cons (pv 0) (pa_cons (pe_lc (own := [("one", 2)]) rfl sc_law_dressed.nd (pi_list (pv 1)) (blkOk_by (N := ["bag", "record", "one"]) (sc := defScope s_law_dressed) (by decide +kernel)) (fun _ _ _ _ _ => (pg_name (i := 2) sc_law_dressed.nd rfl (by first | exact Or.inl rfl | exact Or.inr rfl))) (fun _ _ _ _ _ => pts_nil) (fun _ _ _ _ _ => (pe_callH G_law_either (hr.mono (by omega)) (by rfl) (pa_cons (pv 0) (pa_cons (pv 2) pa_nil))))) pa_nil))))), ?_⟩
    refine ⟨_, rfl, _, rfl, a, rfl, ⟨_, .of hx⟩, fun L nL => ?_⟩
    have nLp := z.ne nL
    have sL := same_upd (o := .lst []) nL
    obtain ⟨qb, hb1, hb2, _⟩ := id z
    have cL : cl ≠ L := ne_of_none hb2 nL
    refine lc_list (K := K) (a := a) (xs := xs) (fun i H' => ∃ ys, But pb H H' ∧ Bag H' pb cl (n + i) ∧ H' L = some (.lst ys) ∧ Paired (EnG H') ys (es.take i) ∧ ∀ y ∈ ys, y ≠ .ref pb ∧ y ≠ .ref L) ⟨[], Same.but sL, z.same sL, upd_same, .nil, (fun y h => by cases h)⟩ (fun i H' _ p => ?_) (fun i x H2 ex p => ?_) (fun H2 p => ?_)
    · obtain ⟨_, b2, _⟩ := p
      exact .of (b2 _ _ na hx)
    · obtain ⟨ys, b2, z2, hL, hy, ny⟩ := p
      obtain ⟨e, ee, t, rfl, ht⟩ := Paired.at hxp ex
      have hi : i < xs.length := (List.getElem?_eq_some_iff.mp ex).1
      have tp : t ≠ pb := ne_of ht hb1 (by intro y; cases y)
      refine ⟨rfl, yesT ⟨_, rfl, _, rfl, pb, cl, t, n + i, _, rfl, z2, by omega, .inr (b2 _ _ tp ht), tp, fun H3 r b3 z3 rp hr3 => ?_⟩⟩
      have hL3 := b3 _ _ nLp hL
      have lys := Paired.len hy
      rw [List.length_take] at lys
      have ryy : ∀ y ∈ ys, ∃ u, y = .ref u := fun y hm => by
        obtain ⟨k, hk⟩ := List.getElem?_of_mem hm
        obtain ⟨_, _, u, e, _⟩ := Paired.at hy hk
        exact ⟨u, e⟩
      have rL : r ≠ L := fun y => by
        rw [y] at hr3
        rcases hr3 with h | h
        · rw [hL3] at h
          have : ys = [koV e.1, .str (actS e.2)] := HO.lst.inj (Option.some.inj h)
          obtain ⟨u, hu⟩ := ryy (.str (actS e.2)) (by rw [this]; exact List.mem_cons_of_mem _ (List.mem_cons_self ..))
          cases hu
        · rw [hL3] at h
          cases h
      refine ⟨ys, hL3, small (by omega), ys ++ [.ref r], ?_, ?_, upd_same, ?_, ?_⟩
      · intro c o nc e
        rw [upd_ne (ne_of_none e nL)]
        exact b3 _ _ nc (b2 _ _ nc e)
      · exact (z3.keep (fun o e => by rw [upd_ne nLp.symm]; exact e) (fun o e => by rw [upd_ne cL]; exact e)).mono (by omega)
      · rw [take_snoc ee]
        have all : ∀ y e', EnG H3 y e' → y ≠ .ref L → EnG (upd H3 L (.lst (ys ++ [.ref r]))) y e' := fun y e' h n => EnG.bagT but_upd n h
        refine Paired.app ?_ (.cons (all _ _ ⟨r, rfl, hr3⟩ (fun z => rL (V.ref.inj z))) .nil)
        have gen : ∀ {vs : List V} {ds : List En}, Paired (EnG H2) vs ds → (∀ y ∈ vs, y ≠ .ref pb ∧ y ≠ .ref L) → Paired (EnG (upd H3 L (.lst (ys ++ [.ref r])))) vs ds := by
          intro vs ds h
          induction h with
          | nil => intro _; exact .nil
          | cons h _ ih => intro n; exact .cons (all _ _ (h.bagT b3 (n _ (List.mem_cons_self ..)).1) (n _ (List.mem_cons_self ..)).2) (ih fun y hm => n y (List.mem_cons_of_mem _ hm))
        exact gen hy ny
      · intro y hm
        rcases List.mem_append.mp hm with h | h
        · exact ny y h
        · cases List.mem_singleton.mp h
          exact ⟨fun z => rp (V.ref.inj z), fun z => rL (V.ref.inj z)⟩
    · obtain ⟨ys, b2, z2, hL, hy, ny⟩ := p
      rw [lx, List.take_length] at hy
      refine ⟨pb, cl, L, n + xs.length, ys, rfl, z2, by omega, .inl hL, nLp, fun H3 r b3 z3 rp hr3 => ?_⟩
      have gen : ∀ {vs : List V} {ds : List En}, Paired (EnG H2) vs ds → (∀ y ∈ vs, y ≠ .ref pb ∧ y ≠ .ref L) → Paired (EnG H3) vs ds := by
        intro vs ds h
        induction h with
        | nil => intro _; exact .nil
        | cons h _ ih => intro n; exact .cons (h.bagT b3 (n _ (List.mem_cons_self ..)).1) (ih fun y hm => n y (List.mem_cons_of_mem _ hm))
      have hy3 := gen hy ny
      exact q _ _ (b2.trans b3) (z3.mono (by omega)) rp ⟨r, ys, rfl, hr3, hy3⟩ ⟨ys, hr3, hy3, fun x hx => (ny x hx).1⟩
end
end UP

set_option Elab.async false
set_option linter.all false
set_option maxRecDepth 100000
set_option maxHeartbeats 4000000
set_option pp.maxSteps 400
namespace UP
open PySem PySem.Spec PyProof.Rows L2
/-! ### a record without a conflict fits some list -/
def NoC (ks : List Str) (ep : List En) : Prop := (∃ e r, ep = e :: r ∧ e.2 = true) ∧
  (∀ (i j : Nat) (a b : En) (x y : Str), i < j → ep[i]? = some a → ep[j]? = some b → a.1 = some x → b.1 = some y → (a.2 = true → b.2 = true → x = y) ∧ (a.2 ≠ b.2 → x ≠ y)) ∧
  (knE ep true = [] → ∃ k ∈ ks, k ∉ knE ep false) ∧ ∀ e ∈ ep, e.2 = false → ks.length ≠ 1
theorem cfEp_ok {ks : List Str} {es ep rest : List En} {f : Nat} (h : cfEp ks es f ep.length = none) (hd : es.drop f = ep ++ rest) (ne : ep ≠ []) : NoC ks ep := by
  have hn : 0 < ep.length := List.length_pos_iff.mpr ne
  have en : ∀ (j : Nat) (e : En), ep[j]? = some e → enA es (f + j) = e := fun j e hj => by
    unfold enA
    rw [List.getD_eq_getElem?_getD, ← List.getElem?_drop, hd, List.getElem?_append_left (List.getElem?_eq_some_iff.mp hj).1, hj]
    rfl
  have cut : ∀ j, j < ep.length → cutE es f (f + j) = ep.take (j + 1) := fun j hj => by
    unfold cutE
    rw [hd, show f + j + 1 - f = j + 1 by omega, List.take_append_of_le_length (by omega)]
  have all : ∀ j, j < ep.length → cfsE ks es f (f + j) = [] := fun j hj => by
    unfold cfEp at h
    have := List.findSome?_eq_none_iff.mp h j (List.mem_range.mpr hj)
    exact List.head?_eq_none_iff.mp this
  have parts : ∀ j, j < ep.length → (j = 0 → ∃ e, ep[0]? = some e ∧ e.2 = true) ∧ btwE es f (f + j) = [] ∧ exhE ks (ep.take (j + 1)) = false := fun j hj => by
    have h1 := all j hj
    unfold cfsE at h1
    split at h1
    · cases h1
    · next c =>
      obtain ⟨h2, h3⟩ := List.append_eq_nil_iff.mp h1
      refine ⟨fun j0 => ?_, h2, ?_⟩
      · subst j0
        obtain ⟨e, he⟩ : ∃ e, ep[0]? = some e := ⟨_, List.getElem?_eq_getElem hj⟩
        refine ⟨e, he, ?_⟩
        rw [Nat.add_zero, decide_eq_true rfl, Bool.true_and] at c
        have e0 := en 0 e he
        rw [Nat.add_zero] at e0
        rw [e0] at c
        simpa using c
      · rw [cut j hj] at h3
        cases hx : exhE ks (ep.take (j + 1)) with
        | false => rfl
        | true => rw [hx] at h3; cases h3
  refine ⟨?_, ?_, ?_, ?_⟩
  · obtain ⟨e, he, h2⟩ := (parts 0 hn).1 rfl
    cases ep with
    | nil => cases he
    | cons x r => cases he; exact ⟨_, r, rfl, h2⟩
  · intro i j a b x y hij ha hb hax hby
    have hj := (List.getElem?_eq_some_iff.mp hb).1
    obtain ⟨_, h2, _⟩ := parts j hj
    unfold btwE at h2
    obtain ⟨h3, h4⟩ := List.append_eq_nil_iff.mp h2
    have ea := en i a ha
    have eb := en j b hb
    have hm : f + i ∈ othE es f (f + j) := by
      unfold othE
      refine List.mem_filter.mpr ⟨List.mem_range'_1.mpr ⟨by omega, by omega⟩, ?_⟩
      rw [ea, eb, hax, hby]
      rfl
    have h3 := List.filter_eq_nil_iff.mp (List.map_eq_nil_iff.mp h3) _ hm
    have h4 := List.filter_eq_nil_iff.mp (List.map_eq_nil_iff.mp h4) _ hm
    rw [ea, eb, hax, hby] at h3 h4
    refine ⟨fun a1 b1 => ?_, fun ab xy => ?_⟩
    · rw [a1, b1] at h3
      simpa using h3
    · subst xy
      have : ¬ b.2 = a.2 := fun z => ab z.symm
      simp [this] at h4
  · intro h0
    obtain ⟨_, _, h3⟩ := parts (ep.length - 1) (by omega)
    rw [show ep.length - 1 + 1 = ep.length by omega, List.take_length] at h3
    unfold exhE at h3
    rw [Bool.or_eq_false_iff] at h3
    have h4 := h3.1
    rw [h0] at h4
    have h5 : (ks.all fun k => decide (k ∈ knE ep false)) = false := by simpa using h4
    rw [List.all_eq_false] at h5
    obtain ⟨k, hk, h6⟩ := h5
    exact ⟨k, hk, by simpa using h6⟩
  · intro e he e2 l1
    obtain ⟨j, hj⟩ := List.getElem?_of_mem he
    have lj := (List.getElem?_eq_some_iff.mp hj).1
    obtain ⟨_, _, h3⟩ := parts j lj
    unfold exhE at h3
    rw [Bool.or_eq_false_iff] at h3
    have h4 := h3.2
    rw [l1, decide_eq_true rfl, Bool.true_and] at h4
    unfold lastB enA at h4
    rw [List.length_take, Nat.min_eq_left (by omega), show j + 1 - 1 = j by omega, List.getD_eq_getElem?_getD, List.getElem?_take, if_pos (by omega), hj] at h4
    have h4 : (!e.2) = false := h4
    rw [e2] at h4
    cases h4
theorem cfGo_ok {ks : List Str} {es : List En} : ∀ (L : List (List En)) (f : Nat), cfGo ks es f L = none → es.drop f = L.flatten → (∀ ep ∈ L, ep ≠ []) → ∀ ep ∈ L, NoC ks ep
  | [], _, _, _, _, ep, h => by cases h
  | a :: r, f, h, hd, ne, ep, hm => by
    rw [cfGo, Option.or_eq_none_iff] at h
    rw [List.flatten_cons] at hd
    rcases List.mem_cons.mp hm with e | e
    · rw [e]
      exact cfEp_ok h.1 hd (ne a (List.mem_cons_self ..))
    · refine cfGo_ok r (f + a.length) h.2 ?_ (fun x hx => ne x (List.mem_cons_of_mem _ hx)) ep e
      rw [← List.drop_drop, hd, List.drop_left']
      rfl
theorem noC_opt {ks : List Str} {ep : List En} (h : NoC ks ep) (ik : InK ks ep) : optW ks ep ≠ [] := by
  obtain ⟨⟨e, r, rfl, e2⟩, h2, h3, _⟩ := h
  rw [optW_eq, if_pos e2]
  by_cases c : knE (e :: r) true = []
  · obtain ⟨k, hk, hn⟩ := h3 c
    refine List.ne_nil_of_mem (List.mem_filter.mpr ⟨hk, ?_⟩)
    unfold pW
    rw [decide_eq_false hn, c]
    rfl
  · obtain ⟨x, hx⟩ := List.exists_mem_of_ne_nil _ c
    obtain ⟨a, ha, a2, a1⟩ := kn_mem.mp hx
    obtain ⟨i, hi⟩ := List.getElem?_of_mem ha
    refine List.ne_nil_of_mem (List.mem_filter.mpr ⟨ik a ha x a1, ?_⟩)
    unfold pW
    rw [Bool.and_eq_true, Bool.not_eq_true', decide_eq_false_iff_not, List.all_eq_true]
    constructor
    · intro hf
      obtain ⟨b, hb, b2, b1⟩ := kn_mem.mp hf
      obtain ⟨j, hj⟩ := List.getElem?_of_mem hb
      rcases Nat.lt_trichotomy i j with l | l | l
      · exact (h2 i j a b x x l hi hj a1 b1).2 (by rw [a2, b2]; decide) rfl
      · subst l
        rw [hi] at hj
        cases hj
        rw [a2] at b2
        cases b2
      · exact (h2 j i b a x x l hj hi b1 a1).2 (by rw [a2, b2]; decide) rfl
    · intro y hy
      obtain ⟨b, hb, b2, b1⟩ := kn_mem.mp hy
      obtain ⟨j, hj⟩ := List.getElem?_of_mem hb
      refine decide_eq_true ?_
      rcases Nat.lt_trichotomy i j with l | l | l
      · exact (h2 i j a b x y l hi hj a1 b1).1 a2 b2
      · subst l
        rw [hi] at hj
        cases hj
        rw [a1] at b1
        exact Option.some.inj b1
      · exact ((h2 j i b a y x l hj hi b1 a1).1 b2 a2).symm
theorem noC_later {ks : List Str} {ep : List En} (h : NoC ks ep) (nd : ks.Nodup) {w : Str} (hw : w ∈ ks) {e : En} (he : e ∈ ep) : optL ks w e ≠ [] := by
  unfold optL
  split
  · simp
  · next c =>
    split
    · have h1 := h.2.2.2 e he (by simpa using c)
      have h2 := filt_rest nd hw
      have h3 := List.length_pos_of_mem hw
      intro z
      rw [z] at h2
      simp at h2
      omega
    · simp
theorem cart_ne : ∀ {os : List (List Str)}, (∀ o ∈ os, o ≠ []) → cart os ≠ []
  | [], _ => by simp [cart]
  | o :: r, h => by
    obtain ⟨x, hx⟩ := List.exists_mem_of_ne_nil _ (h o (List.mem_cons_self ..))
    obtain ⟨t, ht⟩ := List.exists_mem_of_ne_nil _ (cart_ne fun y hy => h y (List.mem_cons_of_mem _ hy))
    exact List.ne_nil_of_mem (List.mem_flatMap.mpr ⟨x, hx, List.mem_map.mpr ⟨t, ht, rfl⟩⟩)
theorem gen_ne {ks : List Str} (nd : ks.Nodup) : ∀ {L : List (List En)}, (∀ ep ∈ L, NoC ks ep ∧ InK ks ep) → genE ks L ≠ []
  | [], _ => by simp [genE]
  | ep :: r, h => by
    obtain ⟨h1, ik⟩ := h ep (List.mem_cons_self ..)
    obtain ⟨w, hw⟩ := List.exists_mem_of_ne_nil _ (noC_opt h1 ik)
    have hwk := optW_in _ hw
    obtain ⟨c, hc⟩ := List.exists_mem_of_ne_nil _ (cart_ne (os := ep.tail.map (optL ks w)) fun o ho => by
      obtain ⟨e, he, rfl⟩ := List.mem_map.mp ho
      exact noC_later h1 nd hwk (List.mem_of_mem_tail he))
    obtain ⟨t, ht⟩ := List.exists_mem_of_ne_nil _ (gen_ne nd fun x hx => h x (List.mem_cons_of_mem _ hx))
    rw [genE]
    exact List.ne_nil_of_mem (List.mem_flatMap.mpr ⟨w, hw, List.mem_flatMap.mpr ⟨w :: c, List.mem_map.mpr ⟨c, hc, rfl⟩, List.mem_map.mpr ⟨t, ht, rfl⟩⟩⟩)
theorem cf_gen {ks : List Str} {es : List En} (nd : ks.Nodup) (ik : InK ks es) (h : cfE ks es = none) : (∀ ep ∈ epsE es, NoC ks ep) ∧ genE ks (epsE es) ≠ [] := by
  have h1 := cfGo_ok (epsE es) 0 h (by rw [List.drop_zero, eps_join]) fun ep he => eps_ne ep he
  exact ⟨h1, gen_ne nd fun ep he => ⟨h1 ep he, fun e hm => ik e (eps_mem he e hm)⟩⟩
end UP

set_option Elab.async false
set_option linter.all false
set_option maxRecDepth 100000
set_option maxHeartbeats 4000000
/-! sets of texts: set(list), len, sorted -/
namespace UP
open PySem PySem.Spec PyProof.Rows L2
/-- the text of a row -/
def kS (e : Int × Value) : Str := match e.2 with
  | .str k _ => k
  | _ => ""
def RowS (w : World) (e : Int × Value) : Prop := ∃ k tk, e = (PySem.hashStr w k, Value.str k tk)
def addS (xs : List Str) (k : Str) : List Str := if k ∈ xs then xs else k :: xs
theorem addS_mem {xs : List Str} {k x : Str} : x ∈ addS xs k ↔ x ∈ xs ∨ x = k := by
  unfold addS
  split
  · exact ⟨.inl, fun h => h.elim id fun e => e ▸ (by assumption)⟩
  · rw [List.mem_cons]; exact Or.comm
theorem addS_nodup {xs : List Str} {k : Str} (h : xs.Nodup) : (addS xs k).Nodup := by
  unfold addS
  split
  · exact h
  · exact List.nodup_cons.mpr ⟨by assumption, h⟩
theorem addS_len (xs : List Str) (k : Str) : (addS xs k).length ≤ xs.length + 1 := by
  unfold addS
  split
  · omega
  · exact Nat.le_refl _
/-- what set(ns) holds, in some order -/
def setS (ns : List Str) : List Str := ns.foldl addS []
theorem foldS_mem : ∀ (ns xs : List Str) (x : Str), x ∈ ns.foldl addS xs ↔ x ∈ xs ∨ x ∈ ns
  | [], xs, x => by simp
  | n :: t, xs, x => by
    rw [List.foldl_cons, foldS_mem t, addS_mem, List.mem_cons]
    exact or_assoc
theorem foldS_nodup : ∀ (ns xs : List Str), xs.Nodup → (ns.foldl addS xs).Nodup
  | [], _, h => h
  | n :: t, xs, h => foldS_nodup t _ (addS_nodup h)
theorem foldS_len : ∀ (ns xs : List Str), (ns.foldl addS xs).length ≤ xs.length + ns.length
  | [], xs => Nat.le_refl _
  | n :: t, xs => by
    have h1 := foldS_len t (addS xs n)
    have h2 := addS_len xs n
    rw [List.foldl_cons, List.length_cons]
    omega
theorem setS_mem {ns : List Str} {x : Str} : x ∈ setS ns ↔ x ∈ ns := by
  unfold setS
  rw [foldS_mem]
  simp
theorem setS_nodup (ns : List Str) : (setS ns).Nodup := foldS_nodup ns [] List.nodup_nil
theorem setS_len (ns : List Str) : (setS ns).length ≤ ns.length := by
  have := foldS_len ns []
  rw [List.length_nil, Nat.zero_add] at this
  exact this
theorem setS_snoc (ns : List Str) (k : Str) : setS (ns ++ [k]) = addS (setS ns) k := by
  unfold setS
  rw [List.foldl_append]
  rfl
/-- the set of texts at a, its members xs in any order -/
def SetS (w : World) (h : Heap) (a : Addr) (xs : List Str) : Prop :=
  ∃ (o : Obj) (rs : Array (Int × Value)) (ep : Nat) (tb : SetTable), (h.get? a = some o ∧ o.ExactSet ∧ o.data = .set rs ep tb) ∧ (∀ e ∈ rs.toList, RowS w e) ∧ (rs.toList.map kS).Perm xs ∧ xs.Nodup ∧
    (rs.size < scanBound ∧ tb.fits rs.size = true) ∧ Ris tb.place.toList ∧ (w.params.followText "set-order" = true ∨ tb.led = true)
section
variable {P : Program} {w : World} {A : Around} {E : Value → Shared → Prop} {s : Shared} {a : Addr} {xs : List Str}
theorem SetS.at {h h' : Heap} (R : SetS w h a xs) (k : ∀ o, h.get? a = some o → h'.get? a = some o) : SetS w h' a xs :=
  let ⟨o, rs, ep, tb, ⟨ho, hx, hd⟩, r⟩ := R
  ⟨o, rs, ep, tb, ⟨k o ho, hx, hd⟩, r⟩
theorem row_is {e : Int × Value} (g : RowS w e) (k : Str) : ((PySem.strKind P w).is k e.2 = true) ↔ kS e = k := by
  obtain ⟨z, tk, rfl⟩ := g
  exact ⟨fun h => by
    have := eq_of_beq (show (z == k) = true from h)
    exact this, fun h => (show (z == k) = true from beq_iff_eq.mpr h)⟩
theorem rows_elems {l : List (Int × Value)} (g : ∀ e ∈ l, RowS w e) : ElemsOf (PySem.strKind P w) l := fun e he => by
  obtain ⟨z, tk, rfl⟩ := g e he
  exact ⟨⟨z, (show (z == z) = true from beq_self_eq_true z), rfl⟩, rfl⟩
/-- what stands at a after a store -/
theorem stored {h : Heap} {o : Obj} {rs rs' : Array (Int × Value)} {ep : Nat} {tb tb' : SetTable} (ho : h.get? a = some o) (hd : o.data = .set rs ep tb) :
    (h.update a (Obj.putSet rs' tb')).get? a = some { o with data := .set rs' (ep + 1) tb' } := L2.store_at ho hd
/-- behind the place of a new row: stored, and laid anew where the table is full -/
theorem sS_tail {gv : Bool → Sem Unit} (hgv : ∀ (b : Bool) (z : Shared) (Qu : Unit → Shared → Prop), Qu () z → wpAny (model P w) A (gv b) Qu E z)
    {o : Obj} {rs r1 : Array (Int × Value)} {ep : Nat} {tb t1 : SetTable} (ho : s.heap.get? a = some o) (hex : o.ExactSet) (hd : o.data = .set rs ep tb) (hr1 : ∀ e ∈ r1.toList, RowS w e)
    {ys : List Str} (hp : (r1.toList.map kS).Perm ys) (hn : ys.Nodup) (hb : r1.size < scanBound) (hf : t1.fits r1.size = true) (hris : Ris t1.place.toList) (hled : w.params.followText "set-order" = true ∨ t1.led = true)
    {dum : Bool} {R : Option Bool → Shared → Prop} (hR : ∀ h', Heap.SameBut a s.heap h' → SetS w h' a ys → R (some true) { s with heap := h' }) :
    wpAny (model P w) A (do storeSet a r1 t1
                            if (!dum && t1.tooFull) = true then do
                              gv (relayAll t1 r1 (SetTable.grown r1.size)).2.2
                              storeSet a (relayAll t1 r1 (SetTable.grown r1.size)).1 (relayAll t1 r1 (SetTable.grown r1.size)).2.1
                              pure (some true)
                            else pure (some true)) R E s := by
  have same1 := Heap.SameBut.update s.heap a (Obj.putSet r1 t1)
  have at1 := stored (a := a) (rs' := r1) (tb' := t1) ho hd
  refine wpAny_bind (wpAny_storeSet_of ho hd ?_ (fits_of_scanBound hb))
  by_cases hfull : (!dum && t1.tooFull) = true
  · rw [if_pos hfull]
    have a1 := relayAll_perm t1 r1 (SetTable.grown r1.size)
    have a2 := relayAll_fits t1 r1 (SetTable.grown r1.size)
    have a3 := L2.relayAll_ris t1 r1 (SetTable.grown r1.size)
    have a4 := L2.relayAll_led t1 r1 (SetTable.grown r1.size)
    generalize relayAll t1 r1 (SetTable.grown r1.size) = Y at a1 a2 a3 a4 ⊢
    obtain ⟨r2, t2, gave⟩ := Y
    dsimp only at a1 a2 a3 a4 ⊢
    have size2 : r2.size = r1.size := by rw [← Array.length_toList, a1.length_eq, Array.length_toList]
    refine wpAny_bind (hgv _ _ _ ?_)
    refine wpAny_bind (wpAny_storeSet_of at1 rfl ?_ (fits_of_scanBound (size2.symm ▸ hb)))
    refine wpAny_pure (hR _ (same1.trans (Heap.SameBut.update _ a _)) ⟨_, r2, _, t2, ⟨stored at1 rfl, hex, rfl⟩, fun e he => hr1 e (a1.mem_iff.mp he), (a1.map kS).trans hp, hn, ⟨size2.symm ▸ hb, a2⟩, a3, hled.imp id fun z => a4.trans z⟩)
  · rw [if_neg hfull]
    exact wpAny_pure (hR _ same1 ⟨_, r1, _, t1, ⟨at1, hex, rfl⟩, hr1, hp, hn, ⟨hb, hf⟩, hris, hled⟩)
theorem sS_add {k : Str} {tk : Tok} {Q : Bool → Shared → Prop} (R : SetS w s.heap a xs) (room : xs.length + 1 < scanBound) (hQ : ∀ b h', Heap.SameBut a s.heap h' → SetS w h' a (addS xs k) → Q b { s with heap := h' }) :
    wpAny (model P w) A (setAddHashed a (.str k tk) ((PySem.strKind P w).hash k)) Q E s := by
  obtain ⟨o, rs, ep, tb, ⟨ho, hex, hd⟩, g, pm, nd, ⟨hb, hf⟩, hr, hl⟩ := R
  have el : ElemsOf (PySem.strKind P w) rs.toList := rows_elems g
  have key : (PySem.strKind P w).is k (.str k tk) = true := (show (k == k) = true from beq_self_eq_true k)
  have scn : (Value.str k tk).scannable = true := rfl
  have lenR : rs.size = xs.length := by rw [← Array.length_toList, ← pm.length_eq, List.length_map]
  have memR : ∀ z, z ∈ xs ↔ ∃ e ∈ rs.toList, (PySem.strKind P w).is z e.2 = true := fun z => by
    rw [← pm.mem_iff, List.mem_map]
    exact ⟨fun ⟨e, h1, h2⟩ => ⟨e, h1, (row_is (g e h1) z).mpr h2⟩, fun ⟨e, h1, h2⟩ => ⟨e, h1, (row_is (g e h1) z).mp h2⟩⟩
  unfold setAddHashed setAddHashedIn
  refine wpAny_holding (wpAny_bind (wpAny_setState_of ho hd hf ?_))
  dsimp only
  rw [byScan_of scn hb el]
  simp only [↓reduceIte]
  unfold setAddByScan
  refine wpAny_bind (wpAny_bind (wpAny_rule (wpAny_bind (wpAny_setScan_of key ho hd hf el ?_))))
  cases fnd : List.findIdx? (fun e => (PySem.strKind P w).is k e.2) rs.toList with
  | some j =>
    dsimp only
    obtain ⟨hj, pj, _⟩ := List.findIdx?_eq_some_iff_getElem.mp fnd
    have inx : k ∈ xs := (memR k).mpr ⟨_, List.getElem_mem hj, pj⟩
    refine wpAny_pure (wpAny_pure (hQ _ s.heap (Heap.SameBut.refl a s.heap) ?_))
    have e : addS xs k = xs := if_pos inx
    rw [e]
    exact ⟨o, rs, ep, tb, ⟨ho, hex, hd⟩, g, pm, nd, ⟨hb, hf⟩, hr, hl⟩
  | none =>
    dsimp only
    have nin : k ∉ xs := fun z => by
      obtain ⟨e, he, q⟩ := (memR k).mp z
      rw [List.findIdx?_eq_none_iff.mp fnd e he] at q
      cases q
    have e : addS xs k = k :: xs := if_neg nin
    rw [e] at hQ
    have gave' : ∀ (b : Bool) {z : Shared} {Qu : Unit → Shared → Prop}, Qu () z → wpAny (model P w) A (match b with | true => rule "set.scan.the-table-gave-way" | false => pure ()) Qu E z := fun b z Qu q => by
      cases b
      · exact wpAny_pure q
      · exact wpAny_rule q
    have b1 := layNew_perm tb rs ((PySem.strKind P w).hash k) (.str k tk)
    have b2 := layNew_fits tb rs ((PySem.strKind P w).hash k) (.str k tk)
    have b3 := L2.layNew_ris tb rs ((PySem.strKind P w).hash k) (.str k tk) hr
    have b4 := L2.layNew_led tb rs ((PySem.strKind P w).hash k) (.str k tk)
    generalize layNew tb rs ((PySem.strKind P w).hash k) (.str k tk) = Y at b1 b2 b3 b4 ⊢
    obtain ⟨r1, t1, dum, gave⟩ := Y
    dsimp only at b1 b2 b3 b4 ⊢
    rw [Array.toList_push] at b1
    have c1 : r1.toList.Perm (((PySem.strKind P w).hash k, Value.str k tk) :: rs.toList) := b1.trans (List.perm_append_singleton _ _)
    have c2 : (r1.toList.map kS).Perm (k :: xs) := (c1.map kS).trans (pm.cons k)
    have c3 : ∀ e ∈ r1.toList, RowS w e := fun e he => (List.mem_cons.mp (c1.mem_iff.mp he)).elim (fun z => ⟨k, tk, z⟩) (g e)
    have c4 : (k :: xs).Nodup := List.nodup_cons.mpr ⟨nin, nd⟩
    have c5 : r1.size < scanBound := by
      have z := c1.length_eq
      rw [Array.length_toList, List.length_cons, Array.length_toList, lenR] at z
      omega
    have c6 : w.params.followText "set-order" = true ∨ t1.led = true := hl.imp id fun z => b4.trans z
    refine wpAny_bind (gave' _ ?_)
    split
    · refine wpAny_bind ?_
      rw [hashByValue_scannable 8 scn]
      refine wpAny_pure (sS_tail ?_ ho hex hd c3 c2 c4 c5 ?_ ?_ ?_ ?_)
      · intro b z Qu q
        cases b
        · exact wpAny_pure q
        · exact wpAny_rule q
      · first | (split <;> first | exact b2 | exact SetTable.fits_plain_off b2) | exact b2
      · first | (split <;> exact b3) | exact b3
      · first | (split <;> exact c6) | exact c6
      · intro h' sb r
        dsimp only
        exact wpAny_pure (hQ _ h' sb r)
    · refine wpAny_bind (wpAny_pure ?_)
      simp only [↓reduceIte]
      refine sS_tail ?_ ho hex hd c3 c2 c4 c5 b2 b3 c6 ?_
      · intro b z Qu q
        cases b
        · exact wpAny_pure q
        · exact wpAny_rule q
      · intro h' sb r
        dsimp only
        exact wpAny_pure (hQ _ h' sb r)
theorem sS_new {h : Heap} (ho : h.get? a = some { cls := .type "set", dict := none, data := .set #[] 0 (.fresh 0 0 (!w.params.followText "set-order")) }) : SetS w h a [] := by
  refine ⟨_, #[], 0, _, ⟨ho, ⟨rfl, rfl, rfl⟩, rfl⟩, fun e he => ?_, List.Perm.refl _, List.nodup_nil, ⟨by decide, by rfl⟩, List.Pairwise.nil, ?_⟩
  · simp at he
  · show _ ∨ (!w.params.followText "set-order") = true
    cases w.params.followText "set-order"
    · exact .inr rfl
    · exact .inl rfl
/-- the walk that adds -/
theorem sS_update {I : Addr} {fp wr : List Addr} {G : Array GenState → Array GenState → Prop} {n : Nat} {Pv : Nat → Value → Prop} {St : Nat → Shared → Prop} {R : Result → Shared → Prop}
    (W : WalksS P w A.in1 I fp wr G n Pv St) (S : Addr) (out : S ∉ fp) (ns : List Str) (hn : n = ns.length) (hb : ns.length + 1 < scanBound) (hval : ∀ (i : Nat) (v : Value), Pv i v → ∃ (k : Str) (t : Tok), ns[i]? = some k ∧ v = Value.str k t) :
    ∀ (k i : Nat) (s : Shared), n - i = k → i ≤ n → St i s → SetS w s.heap S (setS (ns.take i)) → (∀ s', Moved (S :: wr) G s s' → SetS w s'.heap S (setS ns) → R (.ok (.ret .none)) s') →
      codeAny (model P w) A (.builtin "set.update.loop" ⟨[.ref S, .ref I], []⟩) R s := by
  have outW : S ∉ wr := fun h => out (W.sub _ h)
  have more : ∀ b ∈ wr, b ∈ S :: wr := fun b hb => List.mem_cons_of_mem _ hb
  intro k
  induction k with
  | zero =>
    intro i s ek hi hst hS hR
    have ei : i = n := by omega
    subst ei
    refine codeAny_builtin PyProof.Rows.F.entry_set_update_loop ?_
    rw [Around.under_plainId PyProof.Rows.F.plain_set_update_loop _]
    show wpAny _ A.in1 (pyNext (.ref I) >>= _) _ _ s
    refine wpAny_bind (W.done s _ _ hst fun s' hm => ?_)
    show wpAny _ A.in1 (ret Value.none) _ _ s'
    rw [List.take_of_length_le (Nat.le_of_eq hn.symm)] at hS
    exact wpAny_pure (hR s' (hm.mono more) (hS.at fun o e => hm.heap S o outW e))
  | succ k ih =>
    intro i s ek hi hst hS hR
    have lt : i < n := by omega
    refine codeAny_builtin PyProof.Rows.F.entry_set_update_loop ?_
    rw [Around.under_plainId PyProof.Rows.F.plain_set_update_loop _]
    show wpAny _ A.in1 (pyNext (.ref I) >>= _) _ _ s
    refine wpAny_bind (W.item i s _ _ lt hst fun v s' hP hst' hm => ?_)
    obtain ⟨z, t, hz, rfl⟩ := hval i v hP
    have hS' : SetS w s'.heap S (setS (ns.take i)) := hS.at fun o e => hm.heap S o outW e
    have lz : (setS (ns.take i)).length + 1 < scanBound := by
      have h1 := setS_len (ns.take i)
      rw [List.length_take] at h1
      omega
    show wpAny _ A.in1 (holding [Value.str z t] (setAdd S (.str z t)) >>= _) _ _ s'
    refine wpAny_bind (wpAny_holding ?_)
    unfold setAdd
    refine wpAny_holding (wpAny_bind ((PySem.strKind P w).pyHash (k := z) (show (z == z) = true from beq_self_eq_true z) ?_))
    refine sS_add (s := { s' with toks := s'.toks + 1 }) hS' lz fun b h' same hS2 => ?_
    have hS3 : SetS w h' S (setS (ns.take (i + 1))) := by
      have e : ns.take (i + 1) = ns.take i ++ [z] := by rw [List.take_add_one, hz] <;> rfl
      rw [e, setS_snoc]
      exact hS2
    refine wpAny_pure ⟨plainId_quiet PyProof.Rows.F.plain_set_update_loop _, ih (i + 1) _ (by omega) lt (W.frame _ s' _ _ hst' (Nat.le_succ _) fun b hb o e => ?_) hS3 fun s2 hm2 hS4 => ?_⟩
    · have ne : b ≠ S := fun h => out (h ▸ hb)
      rw [same.2 b ne]
      exact e
    · refine hR s2 (Moved.trans W.gtrans ((hm.mono more).then_heap (Nat.le_succ _) fun b o hb e => ?_) hm2) hS4
      have ne : b ≠ S := fun h => hb (h ▸ List.mem_cons_self)
      rw [same.2 b ne]
      exact e
abbrev freshS (w : World) : Obj := { cls := .type "set", dict := none, data := .set #[] 0 (.fresh 0 0 (!w.params.followText "set-order")) }
/-- set(l), l a list of texts -/
theorem set_strs {l : Addr} {its : Array Value} (ns : List Str) {Q : Value → Shared → Prop} (hh : A.handled = none) (hl : s.heap.IsList l its) (hz : its.size = ns.length) (hv : ∀ (i : Nat) (v : Value), its[i]? = some v → ∃ (k : Str) (t : Tok), ns[i]? = some k ∧ v = Value.str k t)
    (hb : ns.length + 1 < scanBound) (q : ∀ (h' : Heap) (tk : Nat), SetS w h' s.heap.objs.size (setS ns) → (∀ b o, s.heap.get? b = some o → h'.get? b = some o) → Q (.ref s.heap.objs.size) { s with heap := h', toks := tk }) :
    wpAny (model P w) A (call (.type "set") [.ref l]) Q E s := by
  obtain ⟨c, tl, hmro⟩ := PySem.F.called_set.mro
  have made := PySem.F.called_set.made
  have subs := PySem.F.called_set.sub
  refine wpAny_call (codeAny_of_tree ?_)
  show wpAny _ _ (callAny (.type "set") _) _ _ _
  refine wpAny_pure ⟨Code.quiet_builtin _ (by decide +kernel), codeAny_builtin PySem.F.entry_type_call ?_⟩
  rw [Around.under_plain (weight_type_call_type "set" [.ref l] []) rfl]
  have t1 := PySem.F.called_set.notType
  have t2 := PySem.F.called_set.canCreate
  have t3 := PySem.F.typeCall_set_1 (.ref l)
  repeat (any_goals (first | assumption | wp_step))
  refine codeAny_mono (L2.code_set_led1 (.ref l) (E := E) (Q₁ := fun ob z => ob = .ref s.heap.objs.size ∧ z = { s with heap := s.heap.push (freshS w) }) ⟨rfl, rfl⟩) fun r z hr => ?_
  cases r with
  | error e => exact hr
  | ok fl =>
    cases fl with
    | ret ob =>
      obtain ⟨rfl, rfl⟩ := hr
      have atS : (s.heap.push (freshS w)).get? s.heap.objs.size = some (freshS w) := Heap.get?_push_size _ rfl
      have isS : Shared.TypeIs { s with heap := s.heap.push (freshS w) } (.ref s.heap.objs.size) "set" := ⟨_, atS, rfl⟩
      have i1 := PySem.F.called_set.init.lookup
      have i2 := PySem.F.called_set.init.bind (.ref s.heap.objs.size)
      repeat (any_goals (first | assumption | wp_step))
      refine codeAny_mono (codeAny_call_builtin (R := wants (fun r z => r = .none ∧ ∃ h' tk, z = { s with heap := h', toks := tk } ∧ SetS w h' s.heap.objs.size (setS ns) ∧ (∀ b o, s.heap.get? b = some o → h'.get? b = some o)) E)
        PySem.F.called_set.init.plain PySem.F.entry_set_init (check_set_init_1 isS ?_)) fun r2 z2 hr2 => ?_
      · obtain ⟨ol, hol, hcl, nl, hdl⟩ := hl
        obtain ⟨ocls, odict, odata, oslots⟩ := ol
        simp only at hcl hdl
        subst hcl
        subst hdl
        have hol2 : (s.heap.push (freshS w)).get? l = some { cls := .type "list", dict := odict, data := .seq its nl, slots := oslots } := Heap.get?_push_of_some _ hol
        have u1 := PySem.F.sub_list_set
        have u2 := PySem.F.sub_list_frozenset
        have u3 : (Value.type "list" == Value.type "dict") = false := by decide
        have isL : (s.heap.push (freshS w)).IsList l its := ⟨_, hol2, rfl, nl, rfl⟩
        unfold Builtin.«set.__init__» noKeywords Builtin.Frozenset.updateFrom
        generalize ePI : pyIter = PI
        wp_walk
        subst ePI
        refine wpAny_pyIter_list isL ?_
        refine wpAny_bind (wpAny_runValue ?_)
        have lt : l < s.heap.objs.size := Heap.lt_size hol
        have cold : A.in1.in1.in1.handled = none := by simp [hh]
        have sz1 : (s.heap.push (freshS w)).objs.size = s.heap.objs.size + 1 := Heap.size_push ..
        have neI : l ≠ (s.heap.push (freshS w)).objs.size := sz1.symm ▸ Nat.ne_of_lt (Nat.lt_succ_of_lt lt)
        have notIn : s.heap.objs.size ∉ [(s.heap.push (freshS w)).objs.size, l] := by
          rw [sz1]
          intro hm
          rcases List.mem_cons.mp hm with e | e
          · exact Nat.ne_of_lt (Nat.lt_succ_self _) e
          · exact Nat.ne_of_gt lt (List.mem_singleton.mp e)
        refine sS_update ((Walks.list cold _ l neI its).toS) s.heap.objs.size notIn ns hz hb hv (its.size - 0) 0 _ (by omega) (Nat.zero_le _) ⟨⟨_, Heap.get?_push_size _ rfl, rfl, rfl⟩, (isL.push _)⟩ ?first ?last
        case first => exact sS_new (Heap.get?_push_of_some _ atS)
        case last =>
          intro s' hm hS'
          obtain ⟨h', g2, d2, tk2, os2⟩ := s'
          have eg : g2 = s.gens := hm.gens
          have ed : d2 = s.drawn := hm.drawn
          have eo : os2 = s.os := hm.os
          subst eg
          subst ed
          subst eo
          show wpAny _ _ _ _ _ _
          refine wpAny_pure ?_
          show wpAny _ _ (ret Value.none) _ _ _
          refine wpAny_pure ⟨rfl, h', tk2, rfl, hS', fun b o e => ?_⟩
          have lb : b < s.heap.objs.size := Heap.lt_size e
          refine hm.heap b o (fun z => ?_) (Heap.get?_push_of_some _ (Heap.get?_push_of_some _ e))
          rcases List.mem_cons.mp z with z | z
          · exact Nat.ne_of_lt lb z
          · exact Nat.ne_of_lt (Nat.lt_succ_of_lt lb) ((List.mem_singleton.mp z).trans sz1)
      · cases r2 with
        | error e => exact hr2
        | ok fl2 =>
          cases fl2 with
          | ret r =>
            obtain ⟨rfl, h', tk2, rfl, hS', hk⟩ := hr2
            repeat (any_goals (first | assumption | wp_step))
            exact q _ _ hS' hk
          | _ => exact hr2.elim
    | _ => exact hr.elim
theorem strs_rows : ∀ (l : List Value) (ys : List Str), (∀ v ∈ l, ∃ k tk, v = Value.str k tk) → l.map (fun v => match v with | .str k _ => k | _ => "") = ys → StrsAre l ys
  | [], _, _, rfl => .nil
  | v :: l, _, h, rfl => by
    obtain ⟨k, tk, rfl⟩ := h v List.mem_cons_self
    exact .cons k tk (strs_rows l _ (fun u hu => h u (List.mem_cons_of_mem _ hu)) rfl)
/-- sorted(set) -/
theorem sorted_setS {Q : Value → Shared → Prop} (R : SetS w s.heap a xs) (hh : A.handled = none) (h64 : xs.length < 64)
    (q : ∀ s' p (out : Array Value) (c : Nat) (ys : List Str), (∀ b o, s.heap.get? b = some o → s'.heap.get? b = some o) → s'.gens = s.gens → s'.os = s.os → s.heap.objs.size ≤ p → s'.heap.get? p = some (seqObj "list" out c) →
      StrsAre out.toList ys → ys.Perm xs → sortedS ys = true → Q (.ref p) s') : wpAny (model P w) A (call (.builtin "sorted") [.ref a]) Q E s := by
  obtain ⟨o, rs, ep, tb, ⟨ho, hex, hd⟩, g, pm, nd, ⟨hb, hf⟩, hr, hl⟩ := R
  refine Calls.call_function_entry kind_sorted plain_sorted entry_sorted (args_sorted1 _) ?_
  unfold Builtin.«sorted»
  refine wpAny_bind (m := checkCount "sorted" 1 1 _) (wpAny_pure ?_)
  refine wpAny_bind (L2.collect_set (A := A.in1) hh ⟨o, ho, hex.1, hd⟩ hf hb hr hl fun s1 vs k1 hz g1 o1 pv => ?_)
  have lv : vs.length = xs.length := by rw [pv.length_eq, List.length_map, ← pm.length_eq, List.length_map]
  have sv : StrsAre vs (vs.map fun v => match v with | .str k _ => k | _ => "") := strs_rows vs _ (fun v hv => by
    obtain ⟨e, he, rfl⟩ := List.mem_map.mp (pv.mem_iff.mp hv)
    obtain ⟨k, tk, rfl⟩ := g e he
    exact ⟨k, tk, rfl⟩) rfl
  have pk : (vs.map fun v => match v with | .str k _ => k | _ => "").Perm xs := by
    have z := pv.map fun v => match v with | .str k _ => k | _ => ""
    rw [List.map_map] at z
    exact z.trans pm
  refine wpAny_bind (wpAny_newList ?_ (by rw [lv, sizeLine_eq]; omega))
  have atL : (s1.heap.push (seqObj "list" vs.toArray 0)).get? s1.heap.objs.size = some (seqObj "list" vs.toArray 0) := Heap.get?_push_size _ rfl
  refine wpAny_bind (wpAny_holding (wpAny_call_entry slot_list_sort ⟨_, atL, rfl⟩ entry_list_sort
    (list_sort_treeK strKind_oneLt atL sv.keysOf (fun v₁ v₂ rest e => keyKind_strs (by rw [← e]; exact sv)) (by rw [lv]; exact h64) fun st' hp hs => ⟨_, rfl, ?_⟩) (args_list_sort _)))
  obtain ⟨ys, y1, y2, y3⟩ := sorted_out_str sv hp hs
  obtain ⟨c, hc⟩ := sortedHeap_at (vs := vs) (out := (arrOf st').map (·.2)) atL
  refine wpAny_pure ⟨_, rfl, q _ s1.heap.objs.size _ c ys (fun b u e => ?_) g1 o1 hz hc y1 (y2.trans pk) y3⟩
  have z := k1 b u e
  have lt := Heap.lt_size z
  show (sortedHeap (s1.heap.push (seqObj "list" vs.toArray 0)) s1.heap.objs.size vs ((arrOf st').map (·.2))).get? b = some u
  rw [sortedHeap_old (Nat.ne_of_lt lt) (by rw [size_push']; exact Nat.lt_succ_of_lt lt)]
  exact Heap.get?_push_of_some _ z
end
/-- the set in the mirror heap -/
def StS (w : World) (a : Addr) (xs : List Str) : HO := .ext fun h => SetS w h a xs
theorem stS_ok {P : Program} {w : World} {H : Hp} {h : Heap} {a : Addr} {xs : List Str} (R : SetS w h a xs) : ObjOk P w H h a (StS w a xs) :=
  ⟨R, (let ⟨o, _, _, _, ⟨ho, _⟩, _⟩ := R; ⟨o, ho⟩), fun h1 h2 p k => SetS.at p k⟩
section
variable {X : Cx}
def rSetS (K : PySem.W.Frag) (w : World) : List V → Hp → VK → Prop := fun vs H Q => ∃ (l : Addr) (ns : List Str), vs = [V.ref l] ∧ SqL K H l (ns.map V.str) ∧ ns.length + 1 < scanBound ∧ ∀ a, H a = none → Q (.ref a) (upd H a (StS w a (setS ns)))
theorem cr_setS (hc : X.calm = true) : CallR X (.type "set") (rSetS X.K X.w) := by
  intro pins s σ H vs us Q I r h
  obtain ⟨l, ns, rfl, hl, hb, q⟩ := h
  rw [Vals.ref1 r]
  obtain ⟨its, rv, pl, _⟩ := I.list hl
  have hz : its.toArray.size = ns.length := by rw [List.size_toArray, ← rv.length, List.length_map]
  refine set_strs (P := X.prog) (w := X.w) ns (I.ok.hd hc) pl.isList hz (fun i v hv => ?_) hb fun h' tk R k => ?_
  · have lt : i < ns.length := by
      rw [← hz]
      exact (Array.getElem?_eq_some_iff.mp hv).1
    obtain ⟨u, hu, t, et⟩ := rv.get (i := i) (x := .str ns[i]) (by simp [lt])
    have ev : its[i]? = some v := by simpa using hv
    rw [hu] at ev
    exact ⟨ns[i], t, List.getElem?_eq_getElem lt, (Option.some.inj ev).symm.trans et⟩
  · exact ⟨.ref s.heap.objs.size, upd H s.heap.objs.size (StS X.w s.heap.objs.size (setS ns)), I.laid (t' := tk) k (Nat.le_refl _) (stS_ok R), rfl, q _ (I.hok.fresh (Nat.le_refl _))⟩
def rSortSS (w : World) : List V → Hp → VK → Prop := fun vs H Q => ∃ (a : Addr) (xs : List Str), vs = [V.ref a] ∧ H a = some (StS w a xs) ∧ xs.length < 64 ∧ ∀ (ys : List Str) (p : Addr), ys.Perm xs → sortedS ys = true → H p = none → Q (.ref p) (upd H p (.lst (ys.map V.str)))
theorem cr_sortSS (hc : X.calm = true) : CallR X (.builtin "sorted") (rSortSS X.w) := by
  intro pins s σ H vs us Q I r h
  obtain ⟨a, xs, rfl, ha, h64, q⟩ := h
  have R : SetS X.w s.heap a xs := (I.hok a _ ha).1
  rw [Vals.ref1 r]
  refine sorted_setS R (I.ok.hd hc) h64 fun s' p out c ys k g o hp hg hs pm so => ?_
  have few : (ys.map V.str).length ≤ sizeLine := by rw [List.length_map, pm.length_eq, sizeLine_eq]; omega
  have hn : H p = none := I.hok.fresh hp
  have J : Inv X pins σ (upd H p (.lst (ys.map V.str))) { s with heap := s'.heap, gens := s'.gens, drawn := s'.drawn, toks := s'.toks } :=
    I.call (ch := []) (Un.laid k hp hn) (I.hok.laid k hp ⟨few, out.toList, c, vals_of_strs hs, hg⟩) (by rw [g]; exact I.bare) (fun _ z => nomatch z)
  have e : s' = { s with heap := s'.heap, gens := s'.gens, drawn := s'.drawn, toks := s'.toks } := by
    cases s'
    cases s
    cases o
    rfl
  rw [e]
  exact ⟨.ref p, _, J, rfl, q ys p pm so hn⟩
def rLenSS (w : World) : List V → Hp → VK → Prop := fun vs H Q => ∃ (a : Addr) (xs : List Str), vs = [V.ref a] ∧ H a = some (StS w a xs) ∧ Q (.int (xs.length : Nat)) H
theorem cr_lenSS : CallR X (.builtin "len") (rLenSS X.w) := by
  intro pins s σ H vs us Q I r h
  obtain ⟨a, xs, rfl, ha, q⟩ := h
  obtain ⟨o, rs, ep, tb, ⟨ho, hex, hd⟩, _, pm, _, ⟨hb, hf⟩, _⟩ := (show SetS X.w s.heap a xs from (I.hok a _ ha).1)
  have e : rs.size = xs.length := by rw [← Array.length_toList, ← pm.length_eq, List.length_map]
  rw [Vals.ref1 r]
  have few : (rs.size : Int) < 2 ^ 63 := by
    unfold scanBound at hb
    omega
  exact call_len_set ho hex hd hf few ⟨.int (xs.length : Nat), H, I.tok _, ⟨_, by rw [e]⟩, q⟩
/-! the same, the frag and the world named -/
theorem cr_setSw {K : PySem.W.Frag} {w : World} (hK : X.K = K) (hw : X.w = w) (hc : X.calm = true) : CallR X (.type "set") (rSetS K w) := by
  subst hK
  subst hw
  exact cr_setS hc
theorem cr_sortSSw {w : World} (hw : X.w = w) (hc : X.calm = true) : CallR X (.builtin "sorted") (rSortSS w) := by
  subst hw
  exact cr_sortSS hc
theorem cr_lenSSw {w : World} (hw : X.w = w) : CallR X (.builtin "len") (rLenSS w) := by
  subst hw
  exact cr_lenSS
end
end UP

set_option Elab.async false
set_option linter.all false
set_option maxRecDepth 100000
set_option maxHeartbeats 4000000
set_option pp.maxSteps 400
namespace UP
open PySem PySem.Spec PyProof.Rows L2
/-! ### where a kind is not certain, two lists differ -/
theorem cart_pick : ∀ {os : List (List Str)} {j : Nat} {o : List Str} {x : Str}, (∀ o ∈ os, o ≠ []) → os[j]? = some o → x ∈ o → ∃ c ∈ cart os, c.length = os.length ∧ c[j]? = some x
  | [], j, _, _, _, h, _ => by cases j <;> cases h
  | a :: r, 0, o, x, ne, h, hx => by
    cases h
    obtain ⟨t, ht, lt⟩ : ∃ t ∈ cart r, t.length = r.length := by
      have gen : ∀ {os : List (List Str)}, (∀ o ∈ os, o ≠ []) → ∃ t ∈ cart os, t.length = os.length := by
        intro os
        induction os with
        | nil => intro _; exact ⟨[], List.mem_singleton.mpr rfl, rfl⟩
        | cons o r ih =>
          intro h
          obtain ⟨y, hy⟩ := List.exists_mem_of_ne_nil _ (h o (List.mem_cons_self ..))
          obtain ⟨t, ht, lt⟩ := ih fun z hz => h z (List.mem_cons_of_mem _ hz)
          exact ⟨y :: t, List.mem_flatMap.mpr ⟨y, hy, List.mem_map.mpr ⟨t, ht, rfl⟩⟩, congrArg (· + 1) lt⟩
      exact gen fun z hz => ne z (List.mem_cons_of_mem _ hz)
    exact ⟨x :: t, List.mem_flatMap.mpr ⟨x, hx, List.mem_map.mpr ⟨t, ht, rfl⟩⟩, congrArg (· + 1) lt, rfl⟩
  | a :: r, j + 1, o, x, ne, h, hx => by
    obtain ⟨y, hy⟩ := List.exists_mem_of_ne_nil _ (ne a (List.mem_cons_self ..))
    obtain ⟨t, ht, lt, e⟩ := cart_pick (os := r) (j := j) (fun z hz => ne z (List.mem_cons_of_mem _ hz)) h hx
    exact ⟨y :: t, List.mem_flatMap.mpr ⟨y, hy, List.mem_map.mpr ⟨t, ht, rfl⟩⟩, congrArg (· + 1) lt, e⟩
theorem cart_mem_len : ∀ {os : List (List Str)}, ∀ c ∈ cart os, c.length = os.length
  | [], c, h => by
    rw [List.mem_singleton.mp h]
    rfl
  | o :: r, c, h => by
    obtain ⟨x, _, h⟩ := List.mem_flatMap.mp h
    obtain ⟨t, ht, rfl⟩ := List.mem_map.mp h
    exact congrArg (· + 1) (cart_mem_len t ht)
/-- a value that an epoch's options allow at a place -/
def AtE (ks : List Str) (ep : List En) (j : Nat) (e : En) (x : Str) : Prop := ∃ w ∈ optW ks ep, (j = 0 → x = w) ∧ (j ≠ 0 → x ∈ optL ks w e)
theorem pick_row {ks : List Str} {ep : List En} {r : List (List En)} (nd : ks.Nodup) (h : ∀ x ∈ ep :: r, NoC ks x ∧ InK ks x) {j : Nat} {e : En} {x : Str} (he : ep[j]? = some e) (hx : AtE ks ep j e x) : ∃ row ∈ genE ks (ep :: r), row[j]? = some x := by
  obtain ⟨w, hw, h0, h1⟩ := hx
  have hwk := optW_in _ hw
  have nc := (h ep (List.mem_cons_self ..)).1
  have ne : ∀ o ∈ ep.tail.map (optL ks w), o ≠ [] := fun o ho => by
    obtain ⟨e, he, rfl⟩ := List.mem_map.mp ho
    exact noC_later nc nd hwk (List.mem_of_mem_tail he)
  obtain ⟨t, ht⟩ := List.exists_mem_of_ne_nil _ (gen_ne nd fun x hx => h x (List.mem_cons_of_mem _ hx))
  have mk : ∀ c ∈ cart (ep.tail.map (optL ks w)), (w :: c) ++ t ∈ genE ks (ep :: r) := fun c hc => List.mem_flatMap.mpr ⟨w, hw, List.mem_flatMap.mpr ⟨w :: c, List.mem_map.mpr ⟨c, hc, rfl⟩, List.mem_map.mpr ⟨t, ht, rfl⟩⟩⟩
  cases j with
  | zero =>
    obtain ⟨c, hc⟩ := List.exists_mem_of_ne_nil _ (cart_ne ne)
    exact ⟨_, mk c hc, by rw [h0 rfl]; rfl⟩
  | succ j =>
    have et : (ep.tail.map (optL ks w))[j]? = some (optL ks w e) := by
      rw [List.getElem?_map, List.getElem?_tail, he]
      rfl
    obtain ⟨c, hc, lc, hcx⟩ := cart_pick ne et (h1 (by omega))
    refine ⟨_, mk c hc, ?_⟩
    show (c ++ t)[j]? = some x
    rw [List.getElem?_append_left (List.getElem?_eq_some_iff.mp hcx).1, hcx]
theorem two_of {l : List Str} (nd : l.Nodup) (h : 1 < l.length) : ∃ x ∈ l, ∃ y ∈ l, x ≠ y := by
  match l, nd, h with
  | x :: y :: t, nd, _ => exact ⟨x, List.mem_cons_self .., y, List.mem_cons_of_mem _ (List.mem_cons_self ..), fun e => (List.nodup_cons.mp nd).1 (e ▸ List.mem_cons_self ..)⟩
theorem optW_nodup {ks : List Str} (nd : ks.Nodup) (ep : List En) : (optW ks ep).Nodup := optW_nd nd ep
theorem two_at {ks : List Str} (nd : ks.Nodup) {ep : List En} (nc : NoC ks ep) (ik : InK ks ep) {j : Nat} {e : En} (he : ep[j]? = some e) (hc : cerK ks (optW ks ep) e = none) : ∃ x y, x ≠ y ∧ AtE ks ep j e x ∧ AtE ks ep j e y := by
  have e1 : e.1 = none := by
    unfold cerK at hc
    split at hc
    · exact hc
    · next c =>
      cases h : e.1 with
      | none => rfl
      | some k => rw [h] at c; simp at c
  have wo := noC_opt nc ik
  have ow := optW_nodup nd ep
  have hd0 : j = 0 → e.2 = true := fun z => by
    subst z
    obtain ⟨⟨e', r, rfl, h2⟩, _⟩ := nc
    cases he
    exact h2
  by_cases l1 : (optW ks ep).length > 1
  · obtain ⟨x, hx, y, hy, ne⟩ := two_of ow l1
    by_cases e2 : e.2 = true
    · have ol : ∀ w, optL ks w e = [w] := fun w => if_pos e2
      refine ⟨x, y, ne, ⟨x, hx, fun _ => rfl, fun _ => ?_⟩, ⟨y, hy, fun _ => rfl, fun _ => ?_⟩⟩
      · rw [ol]; exact List.mem_singleton.mpr rfl
      · rw [ol]; exact List.mem_singleton.mpr rfl
    · have j0 : j ≠ 0 := fun z => e2 (hd0 z)
      have ol : ∀ w, optL ks w e = ks.filter fun k => !decide (k = w) := fun w => by
        unfold optL
        rw [if_neg e2, e1]
      refine ⟨y, x, ne.symm, ⟨x, hx, fun z => absurd z j0, fun _ => ?_⟩, ⟨y, hy, fun z => absurd z j0, fun _ => ?_⟩⟩
      · rw [ol]
        exact List.mem_filter.mpr ⟨optW_in _ hy, by rw [decide_eq_false ne.symm]; rfl⟩
      · rw [ol]
        exact List.mem_filter.mpr ⟨optW_in _ hx, by rw [decide_eq_false ne]; rfl⟩
  · unfold cerK at hc
    rw [e1, decide_eq_false l1] at hc
    have hc : (match optL ks ((optW ks ep).headD "") e with | [c] => some c | _ => none) = none := hc
    have hw : (optW ks ep).headD "" ∈ optW ks ep := head_mem (List.length_pos_iff.mpr wo)
    generalize (optW ks ep).headD "" = wd at *
    by_cases e2 : e.2 = true
    · rw [show optL ks wd e = [wd] from if_pos e2] at hc
      cases hc
    · have j0 : j ≠ 0 := fun z => e2 (hd0 z)
      have on := noC_later nc nd (optW_in _ hw) (List.mem_of_getElem? he)
      have ond := optL_nd nd wd e
      have l2 : 1 < (optL ks wd e).length := by
        cases h : optL ks wd e with
        | nil => exact absurd h on
        | cons a t =>
          cases t with
          | nil => rw [h] at hc; cases hc
          | cons b u => show 1 < u.length + 1 + 1; omega
      obtain ⟨x, hx, y, hy, ne⟩ := two_of ond l2
      exact ⟨x, y, ne, ⟨wd, hw, fun z => absurd z j0, fun _ => hx⟩, ⟨wd, hw, fun z => absurd z j0, fun _ => hy⟩⟩
theorem cer_two {ks : List Str} (nd : ks.Nodup) : ∀ (L : List (List En)), (∀ x ∈ L, NoC ks x ∧ InK ks x) → ∀ i : Nat, (L.flatMap fun ep => ep.map (cerK ks (optW ks ep)))[i]? = some none → ∃ r1 ∈ genE ks L, ∃ r2 ∈ genE ks L, ∃ x y : Str, r1[i]? = some x ∧ r2[i]? = some y ∧ x ≠ y
  | [], _, i, h => by cases i <;> cases h
  | ep :: r, h, i, hi => by
    obtain ⟨nc, ik⟩ := h ep (List.mem_cons_self ..)
    rw [List.flatMap_cons] at hi
    by_cases c : i < ep.length
    · rw [List.getElem?_append_left (by rw [List.length_map]; exact c), List.getElem?_map] at hi
      obtain ⟨e, he, hce⟩ := Option.map_eq_some_iff.mp hi
      obtain ⟨x, y, ne, hx, hy⟩ := two_at nd nc ik he hce
      obtain ⟨r1, m1, e1⟩ := pick_row nd h he hx
      obtain ⟨r2, m2, e2⟩ := pick_row nd h he hy
      exact ⟨r1, m1, r2, m2, x, y, e1, e2, ne⟩
    · rw [List.getElem?_append_right (by rw [List.length_map]; omega), List.length_map] at hi
      obtain ⟨r1, m1, r2, m2, x, y, e1, e2, ne⟩ := cer_two nd r (fun z hz => h z (List.mem_cons_of_mem _ hz)) _ hi
      have wo := noC_opt nc ik
      obtain ⟨w, hw⟩ := List.exists_mem_of_ne_nil _ wo
      have hwk := optW_in _ hw
      have nes : ∀ o ∈ ep.tail.map (optL ks w), o ≠ [] := fun o ho => by
        obtain ⟨e, he, rfl⟩ := List.mem_map.mp ho
        exact noC_later nc nd hwk (List.mem_of_mem_tail he)
      obtain ⟨a, ha, la⟩ : ∃ a ∈ cart (ep.tail.map (optL ks w)), a.length = ep.tail.length := by
        have lm := cart_mem_len (os := ep.tail.map (optL ks w))
        obtain ⟨a, ha⟩ := List.exists_mem_of_ne_nil _ (cart_ne nes)
        exact ⟨a, ha, by rw [lm a ha, List.length_map]⟩
      have lep : ep.length = a.length + 1 := by
        obtain ⟨⟨e, r', rfl, _⟩, _⟩ := nc
        rw [la]
        rfl
      have mk : ∀ t ∈ genE ks r, (w :: a) ++ t ∈ genE ks (ep :: r) := fun t ht => List.mem_flatMap.mpr ⟨w, hw, List.mem_flatMap.mpr ⟨w :: a, List.mem_map.mpr ⟨a, ha, rfl⟩, List.mem_map.mpr ⟨t, ht, rfl⟩⟩⟩
      refine ⟨_, mk r1 m1, _, mk r2 m2, x, y, ?_, ?_, ne⟩
      · rw [List.getElem?_append_right (by rw [List.length_cons]; omega), List.length_cons, ← lep]
        exact e1
      · rw [List.getElem?_append_right (by rw [List.length_cons]; omega), List.length_cons, ← lep]
        exact e2
end UP

set_option Elab.async false
set_option linter.all false
set_option maxRecDepth 100000
set_option maxHeartbeats 4000000
set_option pp.maxSteps 400
namespace UP
open PySem PySem.Spec PyProof.Rows L2
/-! ### the lists that fit stand in their order -/
def ltK (x y : Str) : Prop := x.cps.toList < y.cps.toList
theorem ks_rising {ks : List Str} (h : KsOk ks) : ks.Pairwise ltK := by
  have step := h.2.2.2
  have lt : ∀ (d i : Nat) (x y : Str), ks[i]? = some x → ks[i + 1 + d]? = some y → x.cps.toList < y.cps.toList := by
    intro d
    induction d with
    | zero => intro i x y hx hy; exact step i x y hx hy
    | succ d ih =>
      intro i x y hx hy
      have hl : i + 1 + (d + 1) < ks.length := (List.getElem?_eq_some_iff.mp hy).1
      obtain ⟨z, hz⟩ : ∃ z, ks[i + 1]? = some z := ⟨_, List.getElem?_eq_getElem (by omega)⟩
      have h1 := step i x z hx hz
      have h2 := ih (i + 1) z y hz (by rw [show i + 1 + 1 + d = i + 1 + (d + 1) by omega]; exact hy)
      exact List.lt_trans h1 h2
  refine List.pairwise_iff_getElem.mpr fun i j hi hj hij => ?_
  exact lt (j - i - 1) i ks[i] ks[j] (List.getElem?_eq_getElem hi) (by rw [show i + 1 + (j - i - 1) = j by omega]; exact List.getElem?_eq_getElem hj)
def lexS : List Str → List Str → Prop
  | x :: s, y :: t => ltK x y ∨ (x = y ∧ lexS s t)
  | _, _ => False
theorem allC_sorted {ks : List Str} (h : ks.Pairwise ltK) : ∀ n, (allC ks n).Pairwise lexS
  | 0 => List.pairwise_singleton ..
  | n + 1 => by
    show (ks.flatMap fun x => (allC ks n).map (x :: ·)).Pairwise lexS
    refine List.pairwise_flatMap.mpr ⟨fun x _ => ?_, h.imp fun {x y} l a ha b hb => ?_⟩
    · exact List.pairwise_map.mpr ((allC_sorted h n).imp fun z => Or.inr ⟨rfl, z⟩)
    · obtain ⟨a', _, rfl⟩ := List.mem_map.mp ha
      obtain ⟨b', _, rfl⟩ := List.mem_map.mp hb
      exact Or.inl l
theorem gen_filter {ks : List Str} {es : List En} (nd : ks.Nodup) (ik : InK ks es) : ∃ p : List Str → Bool, (∀ its, its.length = es.length → (p its = true ↔ FitE "" 0 es its)) ∧ (allC ks es.length).filter p = genE ks (epsE es) := by
  have h : ∀ its, its.length = es.length → ((fun its => @decide (FitE "" 0 es its) (Classical.propDecidable _)) its = true ↔ FitE "" 0 es its) := fun its _ => @decide_eq_true_iff _ (Classical.propDecidable _)
  exact ⟨_, h, due_gen nd ik h⟩
theorem gen_sorted {ks : List Str} {es : List En} (kso : KsOk ks) (ik : InK ks es) : (genE ks (epsE es)).Pairwise lexS := by
  obtain ⟨p, _, e⟩ := gen_filter (ks_nodup kso) ik
  rw [← e]
  exact (allC_sorted (ks_rising kso) _).filter _
/-- what stands among the lists that fit -/
theorem gen_fit {ks : List Str} {es : List En} (nd : ks.Nodup) (ik : InK ks es) {row : List Str} : row ∈ genE ks (epsE es) ↔ row.length = es.length ∧ (∀ x ∈ row, x ∈ ks) ∧ FitE "" 0 es row := by
  obtain ⟨p, hp, e⟩ := gen_filter nd ik
  rw [← e, List.mem_filter]
  constructor
  · rintro ⟨h1, h2⟩
    obtain ⟨l, k⟩ := allC_mem h1
    exact ⟨l, k, (hp _ l).mp h2⟩
  · rintro ⟨l, k, f⟩
    refine ⟨?_, (hp _ l).mpr f⟩
    have gen : ∀ (row : List Str), (∀ x ∈ row, x ∈ ks) → row ∈ allC ks row.length := by
      intro row
      induction row with
      | nil => intro _; exact List.mem_singleton.mpr rfl
      | cons x t ih => intro k; exact List.mem_flatMap.mpr ⟨x, k x (List.mem_cons_self ..), List.mem_map.mpr ⟨t, ih fun y hy => k y (List.mem_cons_of_mem _ hy), rfl⟩⟩
    exact l ▸ gen row k
/-- a list that fits has its number -/
theorem gen_place {ks : List Str} {es : List En} (nd : ks.Nodup) {row : List Str} (h : row ∈ genE ks (epsE es)) : ∃ i, i < cntE ks es ∧ nthD ks (epsE es) (digN (numE ks es) i) = row ∧ ixZ (row.zip (optE ks (epsE es) row)) = i ∧ (genE ks (epsE es))[i]? = some row := by
  obtain ⟨i, hi⟩ := List.getElem?_of_mem h
  have hl := (List.getElem?_eq_some_iff.mp hi).1
  rw [cnt_gen nd es] at hl
  have e := gen_num nd hl
  rw [hi] at e
  have e := Option.some.inj e
  exact ⟨i, hl, e.symm, by rw [e]; exact nth_ix nd hl, hi⟩
theorem gen_lt {ks : List Str} {es : List En} (kso : KsOk ks) (ik : InK ks es) {i j : Nat} {a b : List Str} (hij : i < j) (ha : (genE ks (epsE es))[i]? = some a) (hb : (genE ks (epsE es))[j]? = some b) : lexS a b := by
  have h := List.pairwise_iff_getElem.mp (gen_sorted kso ik)
  obtain ⟨l1, e1⟩ := List.getElem?_eq_some_iff.mp ha
  obtain ⟨l2, e2⟩ := List.getElem?_eq_some_iff.mp hb
  have := h i j l1 l2 hij
  rw [e1, e2] at this
  exact this
/-! ### < of lists of texts -/
theorem alike_strs : ∀ {a b : List Str}, a.length = b.length → PySem.W.alikeAll (a.map PyData.str) (b.map PyData.str) = true
  | [], [], _ => by simp [PySem.W.alikeAll]
  | x :: a, y :: b, l => by
    rw [List.map_cons, List.map_cons, PySem.W.alikeAll, alike_strs (Nat.succ.inj l)]
    simp [PySem.W.alike]
theorem ne_ltK {x y : Str} (h : ltK x y) : x ≠ y := fun e => by
  subst e
  exact List.lt_irrefl _ h
theorem lt_strs : ∀ {a b : List Str}, a.length = b.length → (lexS a b → PySem.W.dataLt (.list (a.map .str)) (.list (b.map .str)) = true) ∧ (lexS b a → PySem.W.dataLt (.list (a.map .str)) (.list (b.map .str)) = false)
  | [], [], _ => ⟨fun h => h.elim, fun h => h.elim⟩
  | x :: a, y :: b, l => by
    obtain ⟨i1, i2⟩ := lt_strs (a := a) (b := b) (Nat.succ.inj l)
    have al : PySem.W.alike (.str x) (.str y) = true := by simp [PySem.W.alike]
    have yes : x = y → PySem.W.dataLt (.list ((x :: a).map .str)) (.list ((y :: b).map .str)) = PySem.W.dataLt (.list (a.map .str)) (.list (b.map .str)) := fun e => by
      rw [PySem.W.dataLt_list, PySem.W.dataLt_list, List.map_cons, List.map_cons, PySem.W.dataLt_all_yes al (by subst e; simp [PyData.eqv])]
    have no : x ≠ y → PySem.W.dataLt (.list ((x :: a).map .str)) (.list ((y :: b).map .str)) = decide (x.cps.toList < y.cps.toList) := fun e => by
      rw [PySem.W.dataLt_list, List.map_cons, List.map_cons, PySem.W.dataLt_all_no al (by simp [PyData.eqv, e]), PySem.W.dataLt_str]
    constructor
    · rintro (h | ⟨h, h2⟩)
      · rw [no (ne_ltK h)]
        exact decide_eq_true h
      · rw [yes h]
        exact i1 h2
    · rintro (h | ⟨h, h2⟩)
      · rw [no (ne_ltK h).symm]
        exact decide_eq_false fun z => List.lt_irrefl _ (List.lt_trans z h)
      · rw [yes h.symm]
        exact i2 h2
def rLtD (K : PySem.W.Frag) : R2 := fun x y H Q => ∃ da db, Dp K H x da ∧ Dp K H y db ∧ PySem.W.alike da db = true ∧ da ≠ .none ∧ da.depth ≤ 64 ∧ Q (.bl (PySem.W.dataLt da db)) H
theorem op_ltD {X : Cx} (hu : X.A.units + 64 < cLine) : OpR X (compareOp .Lt) (rLtD X.K) := by
  intro pins s σ H x y v u Q I rx ry h
  obtain ⟨da, db, ha, hb, al, nn, dp, q⟩ := h
  obtain ⟨as, r1⟩ := Dp.reads I da x v ha rx
  obtain ⟨bs, r2⟩ := Dp.reads I db y u hb ry
  exact PySem.W.rcLt_alike da db _ s v u as bs r1 r2 al nn (by omega) X.prog X.w _ _ ⟨.bl _, H, I, rfl, q⟩
theorem depth_strs (l : List Str) : (PyData.list (l.map .str)).depth ≤ 64 := by
  have c : ∀ l : List Str, PyData.depthAll (l.map PyData.str) ≤ 1 := by
    intro l
    induction l with
    | nil => simp [PyData.depthAll]
    | cons x t ih => rw [List.map_cons, PyData.depthAll]; exact Nat.max_le.mpr ⟨by simp [PyData.depth], ih⟩
  rw [PyData.depth]
  have := c l
  omega
end UP

set_option Elab.async false
set_option linter.all false
set_option maxRecDepth 100000
set_option maxHeartbeats 4000000
set_option pp.maxSteps 400
namespace UP
open PySem PySem.Spec PyProof.Rows L2
/-! ### what all the lists that fit have in common -/
theorem set_one {l : List Str} {v : Str} (ne : l ≠ []) (h : ∀ x ∈ l, x = v) : (setS l).length = 1 := by
  have nd := setS_nodup l
  have hm : ∀ x ∈ setS l, x = v := fun x hx => h x (setS_mem.mp hx)
  obtain ⟨y, hy⟩ := List.exists_mem_of_ne_nil _ ne
  have hy := setS_mem.mpr hy
  generalize setS l = s at *
  match s, nd, hm, hy with
  | [], _, _, hy => cases hy
  | [a], _, _, _ => rfl
  | a :: b :: t, nd, hm, _ =>
    have e1 := hm a (List.mem_cons_self ..)
    have e2 := hm b (List.mem_cons_of_mem _ (List.mem_cons_self ..))
    exact absurd (by rw [e1, ← e2]; exact List.mem_cons_self ..) (List.nodup_cons.mp nd).1
theorem set_two {l : List Str} {x y : Str} (hx : x ∈ l) (hy : y ∈ l) (ne : x ≠ y) : (setS l).length ≠ 1 := fun e => by
  have hx := setS_mem.mpr hx
  have hy := setS_mem.mpr hy
  generalize setS l = s at *
  match s, e, hx, hy with
  | [a], _, hx, hy => exact ne ((List.mem_singleton.mp hx).trans (List.mem_singleton.mp hy).symm)
def comK (rows : List (List Str)) (i : Nat) : Option Str := if (setS (rows.map fun r => r.getD i "")).length = 1 then some ((rows.headD []).getD i "") else none
theorem cer_lenE (ks : List Str) (es : List En) : (cerE ks es).length = es.length := by
  unfold cerE
  have gen : ∀ L : List (List En), (L.flatMap fun ep => ep.map (cerK ks (optW ks ep))).length = L.flatten.length := by
    intro L
    induction L with
    | nil => rfl
    | cons ep r ih => rw [List.flatMap_cons, List.flatten_cons, List.length_append, List.length_append, ih, List.length_map]
  rw [gen, eps_join]
theorem com_cer {ks : List Str} {es : List En} (nd : ks.Nodup) (ik : InK ks es) (h : cfE ks es = none) : (List.range es.length).map (comK (genE ks (epsE es))) = cerE ks es := by
  obtain ⟨hn, hg⟩ := cf_gen nd ik h
  refine List.ext_getElem? fun i => ?_
  by_cases hi : i < es.length
  · rw [List.getElem?_map, List.getElem?_range hi]
    obtain ⟨c, hc⟩ : ∃ c, (cerE ks es)[i]? = some c := ⟨_, List.getElem?_eq_getElem (by rw [cer_lenE]; exact hi)⟩
    rw [hc]
    show some (comK _ i) = some c
    congr 1
    unfold comK
    cases c with
    | some v =>
      have all : ∀ r ∈ genE ks (epsE es), r.getD i "" = v := fun r hr => by
        obtain ⟨lr, kr, fr⟩ := (gen_fit nd ik).mp hr
        have p := cer_fit (ks := ks) fr kr
        obtain ⟨k, ek, hk⟩ := Paired.at p hc
        rw [List.getD_eq_getElem?_getD, ek]
        rcases hk with z | z
        · cases z
        · exact (Option.some.inj z).symm
      rw [if_pos (set_one (v := v) (fun z => hg (List.map_eq_nil_iff.mp z)) fun x hx => by
        obtain ⟨r, hr, rfl⟩ := List.mem_map.mp hx
        exact all r hr)]
      congr 1
      obtain ⟨r0, rr, hr⟩ : ∃ r0 rr, genE ks (epsE es) = r0 :: rr := by
        cases h2 : genE ks (epsE es) with
        | nil => exact absurd h2 hg
        | cons a b => exact ⟨a, b, rfl⟩
      rw [hr]
      exact all r0 (by rw [hr]; exact List.mem_cons_self ..)
    | none =>
      obtain ⟨r1, m1, r2, m2, x, y, e1, e2, ne⟩ := cer_two nd (epsE es) (fun ep he => ⟨hn ep he, fun e hm => ik e (eps_mem he e hm)⟩) i hc
      refine if_neg (set_two (x := x) (y := y) (List.mem_map.mpr ⟨r1, m1, ?_⟩) (List.mem_map.mpr ⟨r2, m2, ?_⟩) ne)
      · rw [List.getD_eq_getElem?_getD, e1]; rfl
      · rw [List.getD_eq_getElem?_getD, e2]; rfl
  · rw [List.getElem?_eq_none (by rw [List.length_map, List.length_range]; omega), List.getElem?_eq_none (by rw [cer_lenE]; omega)]
theorem gen_cf {ks : List Str} {es : List En} (nd : ks.Nodup) (ik : InK ks es) : genE ks (epsE es) = [] ↔ cfE ks es ≠ none := by
  constructor
  · intro h z
    exact (cf_gen nd ik z).2 h
  · intro h
    cases hg : genE ks (epsE es) with
    | nil => rfl
    | cons r t =>
      obtain ⟨_, kr, fr⟩ := (gen_fit nd ik).mp (show r ∈ genE ks (epsE es) by rw [hg]; exact List.mem_cons_self ..)
      exact absurd (cf_none fr kr) h
end UP

set_option Elab.async false
set_option linter.all false
set_option maxRecDepth 100000
set_option maxHeartbeats 4000000
set_option pp.maxSteps 400
namespace UP
open PySem PySem.Spec PyProof.Rows L2
/-! ### copied: a flat tuple, and the copy is equal -/
def FlatC (ys : List V) : Prop := ys.length ≤ 1000 ∧ ∀ v ∈ ys, (∃ z, v = .str z) ∨ ∃ n, v = .int n
def sp_nil : Sp := fun _ _ _ _ => False
def sp_atom : Sp := fun vs H Q _ => ∃ v : V, vs = [v] ∧ ((∃ z, v = .str z) ∨ ∃ n, v = .int n) ∧ Q v H
def sp_copied : Sp := fun vs H Q _ => ∃ (t : Addr) (ys : List V), vs = [.ref t] ∧ H t = some (.tup ys) ∧ FlatC ys ∧ ∀ H' u, Same H H' → H u = none → H' u = some (.tup ys) → Q (.ref u) H'
section
variable {P : Program} {w : World} {K : PySem.W.Frag} {mg : Str → Option Value} {base : Heap}
/-! copied: slots 0:value 1:part -/
abbrev s_copied : Stmt := topS 1
theorem sc_copied : FnScope ["value", "part"] ["value"] (defScope s_copied) := ⟨rfl, rfl, rfl, by decide +kernel, rfl, by decide +kernel, by decide +kernel⟩
theorem nil_copied (D : Df K mg "copied" s_copied) : Has P w K mg base 1 "copied" ["value"] sp_nil :=
  has_of D sc_copied (fun _ _ _ _ _ _ us hl => match us, hl with | [_], _ => rfl) (fun _ _ _ _ h => h.elim) (fun _ _ _ _ _ _ _ _ _ _ h => h.elim)
theorem atom_copied (D : Df K mg "copied" s_copied) (T : Tx mg) (G_copied : Has P w K mg base 1 "copied" ["value"] sp_nil) : Has P w K mg base 2 "copied" ["value"] sp_atom := by
  refine has_of D sc_copied (fun _ _ _ _ _ _ us hl => match us, hl with | [_], _ => rfl) (fun vs H Q E h => ?_) (fun f cdv A outer s₀ H vs Q E hr h => ?_)
  · obtain ⟨v, rfl, _⟩ := h
    rfl
  · obtain ⟨v, rfl, hv, q⟩ := h
    refine ⟨_, (pss_cons (ps_if (pt_val (pe_callB call_isi (by rfl) T.n_isinstance (by decide +kernel) (pa_cons (pv 0) (pa_cons (pe_bltn (v := .ty "list") (by rfl) T.n_list (by decide +kernel) rfl) pa_nil)))) (pss_one (ps_ret (pe_lc (own := [("part", 1)]) rfl sc_copied.nd (pi_seqV 0) (blkOk_by (N := ["value", "part"]) (sc := defScope s_copied) (by decide +kernel)) (fun _ _ _ _ _ => (pg_name (i := 1) sc_copied.nd rfl (by first | exact Or.inl rfl | exact Or.inr rfl))) (fun _ _ _ _ _ => pts_nil) (fun _ _ _ _ _ => (pe_callH G_copied (hr.mono (by omega)) (by rfl) (pa_cons (pv 1) pa_nil)))))) pss_nil)
    (pss_cons (ps_if (pt_val (pe_callB call_isi (by rfl) T.n_isinstance (by decide +kernel) (pa_cons (pv 0) (pa_cons (pe_bltn (v := .ty "tuple") (by rfl) T.n_tuple (by decide +kernel) rfl) pa_nil)))) (pss_one (ps_ret (pe_callTy call_tuple_of (by rfl) T.n_tuple (by decide +kernel) (pa_cons (pe_lc (own := [("part", 1)]) rfl sc_copied.nd (pi_seqV 0) (blkOk_by (N := ["value", "part"]) (sc := defScope s_copied) (by decide +kernel)) (fun _ _ _ _ _ => (pg_name (i := 1) sc_copied.nd rfl (by first | exact Or.inl rfl | exact Or.inr rfl))) (fun _ _ _ _ _ => pts_nil) (fun _ _ _ _ _ => (pe_callH G_copied (hr.mono (by omega)) (by rfl) (pa_cons (pv 1) pa_nil)))) pa_nil)))) pss_nil)
    (pss_one (ps_ret (pv 0))))), ?_⟩
    rcases hv with ⟨z, rfl⟩ | ⟨n, rfl⟩
    · exact ⟨_, rfl, _, _, _, _, false, rfl, .ty "list", .base (.str z), kit_ty (by decide +kernel), false, rfl, iteF ⟨_, rfl, _, _, _, _, false, rfl, .ty "tuple", .base (.str z), kit_ty (by decide +kernel), false, rfl, iteF ⟨_, rfl, q⟩⟩⟩
    · exact ⟨_, rfl, _, _, _, _, false, rfl, .ty "list", .base (.int n), kit_ty (by decide +kernel), false, rfl, iteF ⟨_, rfl, _, _, _, _, false, rfl, .ty "tuple", .base (.int n), kit_ty (by decide +kernel), false, rfl, iteF ⟨_, rfl, q⟩⟩⟩
theorem flat_copied (D : Df K mg "copied" s_copied) (T : Tx mg) (G_copied : Has P w K mg base 2 "copied" ["value"] sp_atom) : Has P w K mg base 3 "copied" ["value"] sp_copied := by
  refine has_of D sc_copied (fun _ _ _ _ _ _ us hl => match us, hl with | [_], _ => rfl) (fun vs H Q E h => ?_) (fun f cdv A outer s₀ H vs Q E hr h => ?_)
  · obtain ⟨t, ys, rfl, _⟩ := h
    rfl
  · obtain ⟨t, ys, rfl, ht, fl, q⟩ := h
    refine ⟨_, (pss_cons (ps_if (pt_val (pe_callB call_isi (by rfl) T.n_isinstance (by decide +kernel) (pa_cons (pv 0) (pa_cons (pe_bltn (v := .ty "list") (by rfl) T.n_list (by decide +kernel) rfl) pa_nil)))) (pss_one (ps_ret (pe_lc (own := [("part", 1)]) rfl sc_copied.nd (pi_seqV 0) (blkOk_by (N := ["value", "part"]) (sc := defScope s_copied) (by decide +kernel)) (fun _ _ _ _ _ => (pg_name (i := 1) sc_copied.nd rfl (by first | exact Or.inl rfl | exact Or.inr rfl))) (fun _ _ _ _ _ => pts_nil) (fun _ _ _ _ _ => (pe_callH G_copied (hr.mono (by omega)) (by rfl) (pa_cons (pv 1) pa_nil)))))) pss_nil)
    (pss_cons (ps_if (pt_val (pe_callB call_isi (by rfl) T.n_isinstance (by decide +kernel) (pa_cons (pv 0) (pa_cons (pe_bltn (v := .ty "tuple") (by rfl) T.n_tuple (by decide +kernel) rfl) pa_nil)))) (pss_one (ps_ret (pe_callTy call_tuple_of (by rfl) T.n_tuple (by decide +kernel) (pa_cons (pe_lc (own := [("part", 1)]) rfl sc_copied.nd (pi_seqV 0) (blkOk_by (N := ["value", "part"]) (sc := defScope s_copied) (by decide +kernel)) (fun _ _ _ _ _ => (pg_name (i := 1) sc_copied.nd rfl (by first | exact Or.inl rfl | exact Or.inr rfl))) (fun _ _ _ _ _ => pts_nil) (fun _ _ _ _ _ => (pe_callH G_copied (hr.mono (by omega)) (by rfl) (pa_cons (pv 1) pa_nil)))) pa_nil)))) pss_nil)
    (pss_one (ps_ret (pv 0))))), ?_⟩
    refine ⟨_, rfl, _, _, _, _, false, rfl, .ty "list", .base (.tup ht), kit_ty (by decide +kernel), false, rfl, iteF ⟨_, rfl, _, _, _, _, true, rfl, .ty "tuple", .base (.tup ht), kit_ty (by decide +kernel), true, rfl, iteT ?_⟩⟩
    refine ⟨t, ys, rfl, .inr ht, fun J wk L nL => lc_wk wk (fun i H' => Same H H' ∧ H' L = some (.lst (ys.take i))) (fun _ _ p => p.1) ⟨same_upd nL, upd_same⟩ (fun i x H2 ex p => ?_) (fun H2 p => ?_)⟩
    · obtain ⟨sm, hL⟩ := p
      refine ⟨rfl, yesT ⟨_, rfl, x, rfl, fl.2 x (List.mem_of_getElem? ex), _, hL, ?_, same_grow nL sm, ?_⟩⟩
      · rw [List.length_take]
        have := fl.1
        exact small (by omega)
      · rw [upd_same, take_snoc ex]
    · obtain ⟨sm, hL⟩ := p
      rw [List.take_length] at hL
      exact ⟨L, _, rfl, .inl ⟨.of hL, fun l nl => q _ l (sm.trans (same_upd nl)) (sm.free nl) upd_same⟩⟩
theorem ok_copied (D : Df K mg "copied" s_copied) (T : Tx mg) : Has P w K mg base 3 "copied" ["value"] sp_copied := flat_copied D T (atom_copied D T (nil_copied D))
end
end UP

set_option Elab.async false
set_option linter.all false
set_option maxRecDepth 100000
set_option maxHeartbeats 4000000
/-! walks over lists and tuples while an exception is handled: the StopIteration at their end takes the handled one as its context -/
namespace UPH
open PySem PySem.Spec PyProof.Rows L2 HotX L2H
section
variable {prog : Program} {w : World} {A : Around} {E : Value → Shared → Prop} {s : Shared}
/-- a new StopIteration, raised and caught by pyNext -/
theorem stop_hot {α : Type} {B : Around} {x1 : Addr} {Q : Option Value → Shared → Prop} (hot : HotAt A x1 s.heap) (hQ : ∀ h', (∀ b o, s.heap.get? b = some o → h'.get? b = some o) → Q none { s with heap := h' }) :
    wpAny (model prog w) A (Builtin.SmallTypes.stopIteration : Sem α) (fun _ _ => False) (fun e s1 => wpAny (model prog w) B (isInstance e (.type "StopIteration")) (fun b s2 => b = true ∧ Q none s2) E s1) s := by
  obtain ⟨hh, o1, vs1, h1, d1, c1⟩ := hot
  show wpAny _ _ (newExc (.type "StopIteration") [] >>= _) _ _ _
  refine wpAny_bind ?_
  simp only [newExc, newTuple]
  refine wpAny_bind (wpAny_newObj_type ?_ (by size_fits))
  refine wpAny_bind (m := firstArgMember _ _) (wpAny_of_eq (a := Value.none) (by first | rfl | (simp only [firstArgMember]; rfl)) ?_)
  refine wpAny_newObj_type ?_ (by size_fits)
  refine raiseNew_hot ⟨hh, o1, vs1, Heap.get?_push_of_some _ (Heap.get?_push_of_some _ h1), d1, c1⟩ (Nat.ne_of_lt (Heap.lt_size (Heap.get?_push_of_some _ h1))) (Heap.get?_push_size _ rfl) rfl (by first | (simp; done) | (simp; omega) | (simp only [Array.size_append]; simp; omega)) ?_
  refine wpAny_isInstance (T := "StopIteration") (b := true) ⟨_, Heap.get?_update_self _ (Heap.get?_push_size _ rfl) rfl, rfl⟩ isSubtype_stop ⟨rfl, hQ _ fun b o e => ?_⟩
  rw [Heap.get?_update_other _ _ (Nat.ne_of_gt (Heap.lt_size (Heap.get?_push_of_some _ e)))]
  exact Heap.get?_push_of_some _ (Heap.get?_push_of_some _ e)
/-- the end of a list's iterator -/
theorem next_list_end_hot {it l x1 : Addr} {i : Nat} {items : Array Value} {Q : Option Value → Shared → Prop} (hot : HotAt A x1 s.heap) (hne : x1 ≠ it)
    (hit : s.heap.IsListIter it l i) (hl : s.heap.IsList l items) (hx : items[i]? = none)
    (hQ : ∀ h', Heap.ExtBut it s.heap h' → Q none { s with heap := h' }) : wpAny (model prog w) A (pyNext (.ref it)) Q E s := by
  obtain ⟨hh, o1, vs1, h1, d1, c1⟩ := hot
  obtain ⟨o, ho, hc, hd⟩ := id hit
  obtain ⟨ol, hol, _, nl, hdl⟩ := hl
  unfold pyNext
  refine wpAny_bind (wpAny_attempt (wpAny_callSpecial?_slot (name := Str.ofString "__next__") hit.typeIs slot_listiter_next
    (wpAny_call_entry slot_listiter_next hit.typeIs entry_listiter_next ?_ (args_listiter_next _))))
  show wpAny _ _ (field (.ref it) 0 >>= _) _ _ s
  refine wpAny_bind (wpAny_field ho hd (x := .ref l) rfl ?_)
  show wpAny _ _ (if (Value.ref l == Value.none) = true then _ else _) _ _ s
  rw [if_neg (show ¬ ((Value.ref l == Value.none) = true) from Bool.false_ne_true)]
  show wpAny _ _ (field (.ref it) 1 >>= _) _ _ s
  refine wpAny_bind (wpAny_field ho hd (x := .int i 0) rfl ?_)
  show wpAny _ _ (seqItems? (.ref l) >>= _) _ _ s
  refine wpAny_bind (wpAny_seqItems hol hdl ?_)
  simp only [Int.toNat_natCast, hx]
  refine wpAny_bind (wpAny_rule (wpAny_bind (wpAny_setField ho hd (by simp) ?_)))
  have h2 : (s.heap.update it (Obj.mapFields (·.setIfInBounds 0 .none))).get? x1 = some o1 := by
    rw [Heap.get?_update_other _ _ hne.symm]
    exact h1
  refine wpAny_mono (stop_hot (A := A.in1) (B := A) (E := E) (Q := Q) ⟨hh, o1, vs1, h2, d1, c1⟩ fun h' eb => hQ h' fun b o hb e => eb b o ?_) (fun _ _ z => False.elim z) (fun e s1 z => ?_)
  · rw [Heap.get?_update_other _ _ (Ne.symm hb)]
    exact e
  · refine wpAny_bind (wpAny_mono z (fun b s2 ⟨e1, q⟩ => ?_) fun _ _ y => y)
    subst e1
    exact wpAny_pure q
/-- the end of a tuple's iterator -/
theorem next_tuple_end_hot {it t x1 : Addr} {i : Nat} {items : Array Value} {Q : Option Value → Shared → Prop} (hot : HotAt A x1 s.heap) (hne : x1 ≠ it)
    (hit : IsTupIter s.heap it t i) (ht : IsTup s.heap t items) (hx : items[i]? = none)
    (hQ : ∀ h', Heap.ExtBut it s.heap h' → Q none { s with heap := h' }) : wpAny (model prog w) A (pyNext (.ref it)) Q E s := by
  obtain ⟨hh, o1, vs1, h1, d1, c1⟩ := hot
  obtain ⟨o, ho, hc, hd⟩ := id hit
  obtain ⟨ol, hol, _, nl, hdl⟩ := ht
  unfold pyNext
  refine wpAny_bind (wpAny_attempt (wpAny_callSpecial?_slot (name := Str.ofString "__next__") hit.typeIs slot_tupleiter_next
    (wpAny_call_entry slot_tupleiter_next hit.typeIs entry_tupleiter_next ?_ (args_tupleiter_next _))))
  show wpAny _ _ (field (.ref it) 0 >>= _) _ _ s
  refine wpAny_bind (wpAny_field ho hd (x := .ref t) rfl ?_)
  show wpAny _ _ (if (Value.ref t == Value.none) = true then _ else _) _ _ s
  rw [if_neg (show ¬ ((Value.ref t == Value.none) = true) from Bool.false_ne_true)]
  show wpAny _ _ (field (.ref it) 1 >>= _) _ _ s
  refine wpAny_bind (wpAny_field ho hd (x := .int i 0) rfl ?_)
  show wpAny _ _ (seqItems? (.ref t) >>= _) _ _ s
  refine wpAny_bind (wpAny_seqItems hol hdl ?_)
  simp only [Int.toNat_natCast, hx]
  refine wpAny_bind (wpAny_rule (wpAny_bind (wpAny_setField ho hd (by simp) ?_)))
  have h2 : (s.heap.update it (Obj.mapFields (·.setIfInBounds 0 .none))).get? x1 = some o1 := by
    rw [Heap.get?_update_other _ _ hne.symm]
    exact h1
  refine wpAny_mono (stop_hot (A := A.in1) (B := A) (E := E) (Q := Q) ⟨hh, o1, vs1, h2, d1, c1⟩ fun h' eb => hQ h' fun b o hb e => eb b o ?_) (fun _ _ z => False.elim z) (fun e s1 z => ?_)
  · rw [Heap.get?_update_other _ _ (Ne.symm hb)]
    exact e
  · refine wpAny_bind (wpAny_mono z (fun b s2 ⟨e1, q⟩ => ?_) fun _ _ y => y)
    subst e1
    exact wpAny_pure q
theorem unpackItems_hot {t x1 : Addr} {items : Array Value} {Q : List Value → Shared → Prop} (hot : HotAt A x1 s.heap) (ht : IsTup s.heap t items)
    (hQ : ∀ h', Heap.ExtBut s.heap.objs.size s.heap h' → Q items.toList { s with heap := h' }) : wpAny (model prog w) A (unpackItems (.ref t) items.size none) Q E s := by
  have hlt : t ≠ s.heap.objs.size := by obtain ⟨o, ho, _⟩ := ht; exact Nat.ne_of_lt (Heap.lt_size ho)
  obtain ⟨hh, o1, vs1, h1, d1, c1⟩ := hot
  have hx1 : x1 ≠ s.heap.objs.size := Nat.ne_of_lt (Heap.lt_size h1)
  unfold unpackItems
  refine wpAny_bind ?_
  · unfold notIterableAtAll
    refine wpAny_bind (wpAny_specialOf ht.typeIs slot_tuple_iter.lookup ?_)
    refine wpAny_pure ?_
    simp only [Bool.false_eq_true, if_false]
    refine wpAny_bind (wpAny_holding (iter_tuple ht ?_))
    refine wpAny_bind (wpAny_holding (draw_tuple hlt items.size 0 _ _ ⟨_, Heap.get?_push_size _ rfl, rfl, rfl⟩ (ht.push _) (by omega) fun h₁ hit₁ hs₁ => ?_))
    have hall : List.take items.size (List.drop 0 items.toList) = items.toList := by
      rw [List.drop_zero]; exact List.take_of_length_le (by simp)
    rw [hall]
    rw [if_neg (by simp)]
    have ht₁ : IsTup h₁ t items := (ht.push _).extBut hs₁.extBut hlt
    have h1' : h₁.get? x1 = some o1 := (hs₁.extBut) x1 o1 hx1 (Heap.get?_push_of_some _ h1)
    refine wpAny_bind (wpAny_holding (next_tuple_end_hot ⟨hh, o1, vs1, h1', d1, c1⟩ hx1 hit₁ ht₁ (by simp) fun h₂ he₂ => ?_))
    simp only [Option.isSome_none, Bool.false_eq_true, if_false]
    exact wpAny_pure (hQ h₂ fun b o hb e => he₂ b o hb (hs₁.extBut b o hb (Heap.get?_push_of_some _ e)))
theorem assign_Tuple_hot {env : Env} {elts : List Expr} {k : Nat} {pos : Pos} {t x1 : Addr} {items : Array Value} {Q : Unit → Shared → Prop} (hot : HotAt A x1 s.heap) (ht : IsTup s.heap t items)
    (hn : (assignEach elts env).length = items.size) (hstar : (assignEach elts env).findIdx? (·.1) = none)
    (h : ∀ h', Heap.ExtBut s.heap.objs.size s.heap h' → wpAny (model prog w) A (assignInOrder ((assignEach elts env).map (·.2)) items.toList) Q E { s with heap := h' }) :
    wpAny (model prog w) A (assign (.Tuple elts k pos) env (.ref t)) Q E s := by
  rw [assign_Tuple]
  refine wpAny_bind (wpAny_standAt ?_)
  unfold unpack
  rw [hn, hstar]
  exact wpAny_bind (wpAny_holding (unpackItems_hot hot ht h))
end
/-! ### targets and blocks in a context that bears a handled exception -/
section
variable {X : Cx}
theorem pg_tupH {es : List Expr} {k : Nat} {t : TGs} {n : Nat} {pos : Pos} (hc : HotC X) (h : PGs X es t)
    (hn : (assignEach es X.env).length = n := by rfl) (hst : (assignEach es X.env).findIdx? (·.1) = none := by rfl) : PG X (.Tuple es k pos) (gTup X.K n t) := by
  refine ⟨fun pins s σ H v u Q I r hw => ?_⟩
  obtain ⟨a, xs, e1, hq, hl, hw⟩ := hw
  subst e1
  cases r
  obtain ⟨its, rv, ht, hz⟩ := I.tuple hq
  obtain ⟨x1, hot⟩ := hc.at I
  refine assign_Tuple_hot hot ht (by simp [hn, ← hl, rv.length]) hst fun h' hx => ?_
  exact h.run pins _ σ H xs _ Q (I.kept (t' := s.toks) fun b o e => hx b o (Nat.ne_of_lt (Heap.lt_size e)) e) (by simpa using rv) hw
/-- a block's context, with what the def's context holds pinned -/
abbrev blkH (X : Cx) (s : Shared) (H : Hp) (scope : Scope) (cenv : Env) (fp : List Addr) (p : Addr × Obj) : Cx := { X.blk s H scope cenv fp with pn := [p] }
theorem to_blkH {s : Shared} {H : Hp} {scope : Scope} {cenv : Env} {fp : List Addr} {p : Addr × Obj} {σ : L2.St} {H' : Hp} {s' : Shared} (I : Inv (X.blk s H scope cenv fp) [] σ H' s') (hp : s'.heap.get? p.1 = some p.2 ∧ H' p.1 = none ∧ p.1 ≠ cenv.locals ∧ p.1 ∉ frs X.stack ∧ ∀ v, p.2.data ≠ .cell v) : Inv (blkH X s H scope cenv fp p) [] σ H' s' :=
  ⟨⟨I.ok.mod, I.ok.kind, I.ok.glob, I.ok.blt, I.ok.above, I.ok.inj, I.ok.has, I.ok.cab, I.ok.hd, I.ok.frames, I.ok.stk, I.ok.exf, I.ok.bs, I.ok.bsz, I.ok.noex, I.ok.exfs, I.ok.funs, I.ok.frf⟩, I.os, I.bare, I.base, I.loc, I.cell, I.free, I.freeC, fun q hq => by
    have : q = p := by simpa using hq
    rw [this]
    exact hp, I.hok, I.len⟩
/-- the core of a list comprehension over a list, an exception being handled -/
theorem lc_hot {pins : List (Addr × Obj)} {s : Shared} {σ : L2.St} {H : Hp} {Q : VK} {elt tg iter : Expr} {ifs : List Expr} {scope : Scope} {own : List (Str × Nat)} {pos pos' : Pos} {tl : TE} {g : TG} {tt : TT} {te : TE} {use : Option (Value → Sem Unit)} {Qf : Value → Shared → Prop}
    (hc : HotC X) (hN : X.N.Nodup) (I : Inv X pins σ H s) (hl : PE X iter tl) (ok : BlkOk X.N X.env.scope scope own)
    (hg : ∀ (s : Shared) (H : Hp) (C : Addr) (cl : List (Str × Addr)) (fp : List Addr) (p : Addr × Obj), Hot1 X.A p → PG (blkH X s H scope (compEnvC scope cl C X.env) fp p) tg g)
    (ht : ∀ (s : Shared) (H : Hp) (C : Addr) (cl : List (Str × Addr)) (fp : List Addr) (p : Addr × Obj), Hot1 X.A p → PTs (blkH X s H scope (compEnvC scope cl C X.env) fp p) ifs tt)
    (he : ∀ (s : Shared) (H : Hp) (C : Addr) (cl : List (Str × Addr)) (fp : List Addr) (p : Addr × Obj), Hot1 X.A p → PE (blkH X s H scope (compEnvC scope cl C X.env) fp p) elt te)
    (hs : ∀ x, foldedSetIterable iter X.env x = pure x)
    (h : tLc (iList X.K tl) g tt te (own.map (·.2)) σ H Q)
    (hRR : ∀ D C s' m H', Inv X pins σ H' s' → Q (.ref D) H' → s'.heap.Ns C m → FpOk X pins H' C → compPost (model X.prog X.w) X.A X.xe use Qf (.ref D) C (.ok .next) s') :
    wpAny (model X.prog X.w) X.A (comprehension (.ListComp elt [⟨tg, iter, ifs, 0⟩] scope pos) scope X.env pos' (newList []) false (eval iter X.env) use) Qf X.xe s := by
  obtain ⟨p, hp1, hpn⟩ := hc
  have hfree : ∀ y ∈ scope.names, y.2 = .free → ∃ c, X.env.cells.lookup y.1 = some c := fun y hy e => (ok.free y hy e).elim (fun k => I.ok.has _ (.inl k)) fun k => I.ok.has _ (.inr k)
  refine wpAny_comprehension_free (use := use) rfl hs (closure_ok hfree) ok.kind (fun y hy e => by rw [ok.uniq y hy, e]) (thn (hl.run pins s σ H _ I h) fun xv s1 hx => ?_)
  obtain ⟨x, H1, I1, r1, a, e, ⟨xs, hq⟩, q⟩ := hx
  subst e
  cases r1
  obtain ⟨its, rv, pl, hz⟩ := I1.list hq
  refine wpAny_pyIter_list pl.isList ?_
  generalize hit : s1.heap.objs.size = it
  generalize hs2 : ({ s1 with heap := s1.heap.push _ } : Shared) = s2
  have kp2 : ∀ b o, s1.heap.get? b = some o → s2.heap.get? b = some o := fun b o e => by rw [← hs2]; exact Heap.get?_push_of_some _ e
  have I2 : Inv X pins σ H1 s2 := by rw [← hs2]; exact I1.kept (t' := s1.toks) fun b o e => Heap.get?_push_of_some _ e
  have st2 : s2.heap.IsListIter it a 0 := by
    rw [← hs2, ← hit]
    exact ⟨_, Heap.get?_push_size _ rfl, rfl, rfl⟩
  have f2 : FpOk X pins H1 it := I1.fpOk (Nat.le_of_eq hit) (I1.hok.fresh (Nat.le_of_eq hit))
  refine wpAny_newObj_type (newEnv_comp ?_) (by show 0 ≤ sizeLine; decide)
  generalize hD : s2.heap.objs.size = D
  have hDn : H1 D = none := I2.hok.fresh (Nat.le_of_eq hD)
  obtain ⟨W, ⟨m0, w0⟩, turn⟩ := q D hDn
  generalize hs3 : ({ s2 with heap := s2.heap.push { cls := .type "list", data := .seq ([] : List Value).toArray } } : Shared) = s3
  have kp3 : ∀ b o, s2.heap.get? b = some o → s3.heap.get? b = some o := fun b o e => by rw [← hs3]; exact Heap.get?_push_of_some _ e
  have I3 : Inv X pins σ (upd H1 D (.lst [])) s3 := by
    rw [← hs3]
    refine I2.laid (t' := s2.toks) (fun b o e => Heap.get?_push_of_some _ e) (Nat.le_of_eq hD) ⟨Nat.zero_le _, [], 0, .nil, ?_⟩
    rw [← hD]
    exact Heap.get?_push_size _ rfl
  have ltD : it < D := by
    obtain ⟨o, ho, _⟩ := st2
    rw [← hD]
    exact Heap.lt_size ho
  have st3 : s3.heap.IsListIter it a 0 := by
    obtain ⟨o, ho, z⟩ := st2
    exact ⟨o, kp3 _ _ ho, z⟩
  have lt3 : it < s3.heap.objs.size := by
    obtain ⟨o, ho, _⟩ := st3
    exact Heap.lt_size ho
  have n3 : (upd H1 D (.lst [])) it = none := by
    rw [upd_ne (Nat.ne_of_lt ltD)]
    exact f2.1
  have f3 : FpOk X pins (upd H1 D (.lst [])) it := ⟨n3, f2.2⟩
  have pin3 := I3.pin p (List.mem_append_left _ hpn)
  have pne : p.1 ≠ it := f2.2.2.2.2.2 p (List.mem_append_left _ hpn)
  have I4 := block_start I3 ok hN (fp := [it]) fun b hb => by
    have : b = it := by simpa using hb
    rw [this]
    exact ⟨f3, lt3⟩
  generalize hH3 : upd H1 D (.lst []) = H3 at *
  have pg := hg s3 H3 s3.heap.objs.size (cellsFrom (s3.heap.objs.size + 1) scope.names (cloFrom X.env.cells scope.names [])) [it] p hp1
  have pt := ht s3 H3 s3.heap.objs.size (cellsFrom (s3.heap.objs.size + 1) scope.names (cloFrom X.env.cells scope.names [])) [it] p hp1
  have pe := he s3 H3 s3.heap.objs.size (cellsFrom (s3.heap.objs.size + 1) scope.names (cloFrom X.env.cells scope.names [])) [it] p hp1
  show codeAny _ _ (.compStart (.ListComp elt [⟨tg, iter, ifs, 0⟩] scope pos) 0 (.ref it) (.ref D) (compEnvC scope (cellsFrom (s3.heap.objs.size + 1) scope.names (cloFrom X.env.cells scope.names [])) s3.heap.objs.size X.env)) (compPost (model X.prog X.w) X.A X.xe use Qf (.ref D) s3.heap.objs.size) { s3 with heap := pushCells (s3.heap.push { cls := .type "dict", data := .dict #[] }) scope.names }
  generalize hce : compEnvC scope (cellsFrom (s3.heap.objs.size + 1) scope.names (cloFrom X.env.cells scope.names [])) s3.heap.objs.size X.env = ce at I4 pg pt pe ⊢
  have cL : ce.locals = s3.heap.objs.size := by subst hce; rfl
  generalize hs4 : ({ s3 with heap := pushCells (s3.heap.push { cls := .type "dict", data := .dict #[] }) scope.names } : Shared) = s4 at I4 ⊢
  have kp4 : ∀ b o, s3.heap.get? b = some o → s4.heap.get? b = some o := fun b o e => by rw [← hs4]; exact pushCells_keeps _ _ _ _ (Heap.get?_push_of_some _ e)
  have st4 : s4.heap.IsListIter it a 0 := by
    obtain ⟨o, ho, z⟩ := st3
    exact ⟨o, kp4 _ _ ho, z⟩
  have B4 : Inv (blkH X s3 H3 scope ce [it] p) [] (wipe σ (own.map (·.2))) H3 s4 := to_blkH I4 ⟨kp4 _ _ pin3.1, pin3.2.1, by
    rw [cL]
    exact Nat.ne_of_lt (Heap.lt_size pin3.1), fun z => (List.mem_cons.mp (I3.stkSub _ z)).elim pin3.2.2.1 pin3.2.2.2.1, pin3.2.2.2.2⟩
  have stat : ∀ {σ' : L2.St} {H' : Hp} {s' : Shared}, Inv (blkH X s3 H3 scope ce [it] p) [] σ' H' s' → H' it = none → FpOk (blkH X s3 H3 scope ce [it] p) [] H' it := fun {σ' H' s'} I' hn =>
    have mem : it ∈ (blkH X s3 H3 scope ce [it] p).ex := List.mem_singleton.mpr rfl
    ⟨hn, (I'.ok.exf it mem).1, I'.ok.exfs it mem, .inl mem, fun x c e => (I'.ok.exf it mem).2 x c e, fun q hq => by
      have : q = p := by simpa using hq
      rw [this]
      exact pne⟩
  have self : ∀ (A : Around) (s : Shared) (Q : Value → Shared → Prop) (E : Value → Shared → Prop), s.heap.IsListIter it a 0 → Q (.ref it) s → wpAny (model X.prog X.w) A (pyIter (.ref it)) Q E s := fun _ _ _ _ st h => wpAny_pyIter_listiter st h
  have loop : codeAny (model X.prog X.w) X.A (.compLoop (.ListComp elt [⟨tg, iter, ifs, 0⟩] scope pos) 0 (.ref it) (.ref D) ce) (compPost (model X.prog X.w) X.A X.xe use Qf (.ref D) s3.heap.objs.size) s4 := by
    refine compLoop_any (fun n s' => ∃ i H', Inv (blkH X s3 H3 scope ce [it] p) [] (wipe σ (own.map (·.2))) H' s' ∧ s'.heap.IsListIter it a i ∧ H' it = none ∧ W i n H') ?_ m0 ⟨0, H3, B4, st4, n3, w0⟩
    rintro n s5 ⟨i, H5, I5, st5, n5, w5⟩
    obtain ⟨f0, f1, f2', f4, f5, f6⟩ := stat I5 n5
    rcases turn i n H5 w5 with ⟨stop, qq⟩ | ⟨go, Nx, hNx, step⟩
    · obtain ⟨ys, hys, hlen⟩ := stop
      obtain ⟨its5, rv5, pl5, hz5⟩ := I5.list hys
      have pin5 := I5.pin p (List.mem_singleton.mpr rfl)
      obtain ⟨hh, vs1, d1, c1⟩ := hp1
      have hl5 := rv5.length
      refine next_list_end_hot ⟨hh, p.2, vs1, pin5.1, d1, c1⟩ pne st5 pl5.isList (by simp; omega) fun h' eb => ?_
      have I6 : Inv (blkH X s3 H3 scope ce [it] p) [] (wipe σ (own.map (·.2))) H5 { s5 with heap := h' } := I5.turned (t' := s5.toks) (fun b o hb e => eb b o hb e) f0 f1 f4 f5 f6
      have I7 : Inv X pins σ H5 { s5 with heap := h' } := I3.call' (ch := [it]) I6.os I6.base I6.hok I6.bare fun b hb => by
        have : b = it := by simpa using hb
        rw [this]
        exact ⟨f3.2.2.2.1, f3.2.1, f3.2.2.2.2.1, f3.2.2.2.2.2⟩
      have nC : H5 s3.heap.objs.size = none := by
        have z : H5 ce.locals = none := I6.free
        rw [cL] at z
        exact z
      obtain ⟨m, hn, _⟩ := I6.loc
      have hn : Heap.Ns _ ce.locals m := hn
      rw [cL] at hn
      exact hRR D s3.heap.objs.size _ m H5 I7 qq hn (I3.fpOk (Nat.le_refl _) nC)
    · obtain ⟨ys, y, hys, hy⟩ := go
      obtain ⟨its5, rv5, pl5, hz5⟩ := I5.list hys
      obtain ⟨u, hu, ru⟩ := rv5.get hy
      refine wpAny_pyNext_list_item st5 pl5.isList (x := u) (by simpa using hu) fun h' st6 sb => ?_
      have I6 : Inv (blkH X s3 H3 scope ce [it] p) [] (wipe σ (own.map (·.2))) H5 { s5 with heap := h' } := I5.turned (t' := s5.toks) (fun b o hb e => (sb.2 b hb).trans e) f0 f1 f4 f5 f6
      obtain ⟨o, e, c, d⟩ := id st6
      refine thnF (go_of (s := { s5 with heap := h' }) e c d (by decide) (Q := fun _ s7 => Inv (blkH X s3 H3 scope ce [it] p) [] (wipe σ (own.map (·.2))) H5 s7 ∧ s7.heap.IsListIter it a (i + 1)) ⟨I6, st6⟩) fun _ s7 ⟨I7, st7⟩ => ?_
      have B7 := I7.pinned (fp := [it]) (fun b hb => by
        have : b = it := by simpa using hb
        rw [this]
        exact stat I7 n5) (fun b hb => by
        have : b = it := by simpa using hb
        rw [this]
        obtain ⟨o, e, c, d⟩ := st7
        exact ⟨o, e, fun v z => by rw [d] at z; cases z⟩)
      refine thnF (pg.run _ s7 _ H5 y u _ B7 ru (step y H5 ⟨rfl, fun zs hz => by rw [I5.list_inj hz hys]; exact hy⟩)) fun _ s8 ⟨σ8, H8, I8, hw8, q8⟩ => ?_
      refine thnF (pt.run _ s8 σ8 H8 _ I8 q8) fun b s9 ⟨H9, I9, q9⟩ => ?_
      have fin : ∀ {s' : Shared} {H' : Hp}, Inv (blkH X s3 H3 scope ce [it] p) ([] ++ pinsAt [it] s7.heap) σ8 H' s' → Nx H' → ∃ m, m < n ∧ ∃ i H', Inv (blkH X s3 H3 scope ce [it] p) [] (wipe σ (own.map (·.2))) H' s' ∧ s'.heap.IsListIter it a i ∧ H' it = none ∧ W i m H' := fun {s' H'} I' nx => by
        obtain ⟨m', hm, w'⟩ := hNx H' nx
        have pin' : ∀ o, s7.heap.get? it = some o → s'.heap.get? it = some o ∧ H' it = none := fun o e =>
          let z := I'.pin (it, o) (List.mem_append_right _ (List.mem_append_right _ (mem_pinsAt (List.mem_singleton.mpr rfl) e)))
          ⟨z.1, z.2.1⟩
        obtain ⟨o, e, z⟩ := st7
        refine ⟨m', hm, i + 1, H', (I'.unpinned (pins := [])).weak (by rw [← hw8, wipe_length]) (fun j v e => ?_), ⟨o, (pin' o e).1, z⟩, (pin' o e).2, w'⟩
        rw [← hw8] at e
        exact (wipe_some e).1
      cases b with
      | false =>
        simp only [Bool.false_eq_true, if_false] at q9 ⊢
        exact fin I9 q9
      | true =>
        simp only [if_true] at q9 ⊢
        refine thnF (pe.run _ s9 σ8 H9 _ I9 q9) fun z s10 ⟨yv, H10, I10, r10, acc, hD10, hz10, nx⟩ => ?_
        exact app_ok (X := blkH X s3 H3 scope ce [it] p) I10 hD10 hz10 r10 fun s11 I11 => fin I11 nx
  exact codeAny_compStart_list loop (self X.A _ _ _ st4 loop)
/-- as a value -/
theorem pe_lcH {elt tg iter : Expr} {ifs : List Expr} {scope : Scope} {own : List (Str × Nat)} {pos : Pos} {tl : TE} {g : TG} {tt : TT} {te : TE} (hc : HotC X) (hN : X.N.Nodup) (hl : PE X iter tl) (ok : BlkOk X.N X.env.scope scope own)
    (hg : ∀ (s : Shared) (H : Hp) (C : Addr) (cl : List (Str × Addr)) (fp : List Addr) (p : Addr × Obj), Hot1 X.A p → PG (blkH X s H scope (compEnvC scope cl C X.env) fp p) tg g)
    (ht : ∀ (s : Shared) (H : Hp) (C : Addr) (cl : List (Str × Addr)) (fp : List Addr) (p : Addr × Obj), Hot1 X.A p → PTs (blkH X s H scope (compEnvC scope cl C X.env) fp p) ifs tt)
    (he : ∀ (s : Shared) (H : Hp) (C : Addr) (cl : List (Str × Addr)) (fp : List Addr) (p : Addr × Obj), Hot1 X.A p → PE (blkH X s H scope (compEnvC scope cl C X.env) fp p) elt te)
    (hs : ∀ x, foldedSetIterable iter X.env x = pure x := by intro _; rfl) :
    PE X (.ListComp elt [⟨tg, iter, ifs, 0⟩] scope pos) (tLc (iList X.K tl) g tt te (own.map (·.2))) := by
  refine ⟨fun pins s σ H Q I h => ?_⟩
  rw [eval_ListComp]
  refine lc_hot hc hN I hl ok hg ht he hs h fun D C s' m H' I' q hn f => ⟨m, hn, fun h'' sb => ?_⟩
  obtain ⟨f0, f1, f2, f3, f4, f5⟩ := f
  exact ⟨.ref D, H', I'.turned (t' := s'.toks) (fun b o hb e => (sb.2 b hb).trans e) f0 f1 f3 f4 f5, rfl, q⟩
/-- name = [..] on one line, the name a local -/
theorem ps_setLcH {i : Nat} {y : Str} {py : Pos} {elt tg iter : Expr} {ifs : List Expr} {scope : Scope} {own : List (Str × Nat)} {pos spos : Pos} {tl : TE} {g : TG} {tt : TT} {te : TE} (hc : HotC X) (hN : X.N.Nodup) (hy : X.N[i]? = some y) (hyl : X.env.scope.names.lookup y = some .local)
    (hsw : swapsWith (.ListComp elt [⟨tg, iter, ifs, 0⟩] scope pos) (some (.Name y py)) spos.line X.env = pure true) (hl : PE X iter tl) (ok : BlkOk X.N X.env.scope scope own)
    (hg : ∀ (s : Shared) (H : Hp) (C : Addr) (cl : List (Str × Addr)) (fp : List Addr) (p : Addr × Obj), Hot1 X.A p → PG (blkH X s H scope (compEnvC scope cl C X.env) fp p) tg g)
    (ht : ∀ (s : Shared) (H : Hp) (C : Addr) (cl : List (Str × Addr)) (fp : List Addr) (p : Addr × Obj), Hot1 X.A p → PTs (blkH X s H scope (compEnvC scope cl C X.env) fp p) ifs tt)
    (he : ∀ (s : Shared) (H : Hp) (C : Addr) (cl : List (Str × Addr)) (fp : List Addr) (p : Addr × Obj), Hot1 X.A p → PE (blkH X s H scope (compEnvC scope cl C X.env) fp p) elt te)
    (hs : ∀ x, foldedSetIterable iter X.env x = pure x := by intro _; rfl) :
    PS X (.Assign [.Name y py] (.ListComp elt [⟨tg, iter, ifs, 0⟩] scope pos) spos) (tAsg (tLc (iList X.K tl) g tt te (own.map (·.2))) (gName i)) := by
  refine ⟨fun pins s σ H D I h => ?_⟩
  rw [exec_Assign_Name_used _ _ _ _ hsw]
  refine wpAny_bind (wpAny_standAt (wpAny_bind ?_))
  have h : tLc (iList X.K tl) g tt te (own.map (·.2)) σ H (fun x H1 => gName i x σ H1 D.nx) := h
  show wpAny _ X.A (do let _ ← comprehension (.ListComp elt [⟨tg, iter, ifs, 0⟩] scope pos) scope X.env (firstIterPos [⟨tg, iter, ifs, 0⟩] pos) (newList []) false (eval iter X.env) (some (assign (.Name y py) X.env))) _ _ s
  refine wpAny_bind (thn (lc_hot (Qf := fun _ s' => SP X pins D .next s') hc hN I hl ok hg ht he hs h fun L C s' m H' I' q hn f => ?_) fun _ s' hq => wpAny_pure (wpAny_pure hq))
  show wpAny _ _ (assign (.Name y py) X.env (.ref L)) _ _ _
  refine wpAny_assign_Name (store_ok2 (v := V.ref L) I' hN hy (.inl hyl) rfl (fun s2 I2 ⟨a, sb, ha⟩ => ?_) (.inr hyl))
  obtain ⟨f0, f1, f2, f3, f4, f5⟩ := f
  have haC : C ≠ a := ha.elim (fun z => by rw [z]; exact f1) fun z => fun e => f4 y a z e.symm
  exact ⟨m, hn.sameBut sb haC, fun h3 sb3 => ⟨_, H', I2.turned (t' := s2.toks) (fun b o hb e => (sb3.2 b hb).trans e) f0 f1 f3 f4 f5, q⟩⟩
end
end UPH

set_option Elab.async false
set_option linter.all false
set_option maxRecDepth 100000
set_option maxHeartbeats 4000000
/-! a def of one argument, called in an except suite with the caught exception, which may have a dict: it knows the class and the dict -/
namespace UPD
open PySem PySem.Spec PyProof.Rows L2 HotX L2H UPH
/-- its own dict, if it has one, stands there -/
def DOk (H : Hp) (d : Option Addr) : Prop := ∀ dx, d = some dx → ∃ fs, H dx = some (.xd fs)
theorem DOk.same {H H' : Hp} {d : Option Addr} (h : DOk H d) (s : ∀ b o, H b = some o → H' b = some o) : DOk H' d := fun dx e => by
  obtain ⟨fs, z⟩ := h dx e
  exact ⟨fs, s _ _ z⟩
theorem dok_none {H : Hp} : DOk H none := fun dx e => by cases e
theorem dok_some {H : Hp} {dx : Addr} {fs : List (Str × V)} (h : H dx = some (.xd fs)) : DOk H (some dx) := fun x e => by
  cases e
  exact ⟨fs, h⟩
theorem DOk.off {H H' : Hp} {d : Option Addr} {l : Addr} {xs : List V} (h : DOk H d) (hl : H l = some (.lst xs)) (k : ∀ b o, b ≠ l → H b = some o → H' b = some o) : DOk H' d := fun dx e => by
  obtain ⟨fs, z⟩ := h dx e
  exact ⟨fs, k _ _ (fun n => by rw [n, hl] at z; cases z) z⟩
theorem inst_pin {X : Cx} {pins : List (Addr × Obj)} {σ : L2.St} {H : Hp} {s : Shared} {a D : Addr} {d : Option Addr} {oe : Obj} (I : Inv X pins σ H s) (hp : (a, oe) ∈ X.pn) (hz : Zc (.ref D) d oe) (hf : ∃ vs, oe.data = .fields vs) (hd : DOk H d) : ∃ od, PySem.W.InstAt s.heap a oe D od := by
  obtain ⟨hget, _⟩ := I.pin (a, oe) (List.mem_append_left _ hp)
  obtain ⟨vs, hv⟩ := hf
  obtain ⟨oc, od, oda, osl⟩ := oe
  obtain ⟨h1, h2⟩ := hz
  dsimp only at h1 h2 hv
  subst h1 h2 hv
  cases od with
  | none => exact ⟨none, hget, rfl, rfl, trivial⟩
  | some dx =>
    obtain ⟨fs, hx⟩ := hd dx rfl
    have y : ObjOk X.prog X.w H s.heap dx (.xd fs) := I.hok dx _ hx
    obtain ⟨mA, ⟨o, es, ep, ho, hr⟩, _⟩ := y
    exact ⟨some o, hget, rfl, rfl, ho⟩
theorem excC_has {K : PySem.W.Frag} {D : Addr} (C : ExcC K D) : (PySem.W.clsIn K D).isSome = true := by
  obtain ⟨cd, hc, _⟩ := PySem.W.any_some C.hd
  rw [hc]
  rfl
section
variable {X : Cx} {e : Expr} {es : List Expr} {ta : TA} {p pos : Pos}
/-- C(e, ..) raised by a def of L2N: the new exception's context is None -/
theorem pmk_oexN {CXT' : CXT} {x : Str} {C fI : Addr} {k : Nat} {fd : FuncData} {ps : List Str} {sp : Sp} {ds : List Value} {dvs : List V} (T : OexC X.K C) (iC : PySem.W.findIn X.K (.ref C) "__init__" = some (some (.ref fI))) (tI : PySem.W.typeIn X.K (.ref fI) = some (.type "function")) (F1 : FnOk X.prog X.w X.K X.mg X.base CXT' k fI fd ps sp) (hr : Room (k + 1) X.A)
    (hb : Binds X.K fd ps ds) (hd : Vals dvs ds) (hx : Passes CXT' X (fun _ _ _ => False)) (hg : Gl X x) (hm : X.mg x = some (.ref C)) (ha : PA X (e :: es) ta) (hdb : (x == ("__debug__" : Str)) = false := by decide) (he : starEach (e :: es) X.env = (false, eval e X.env) :: starEach es X.env := by rfl) (hpl : (backTo pos (starEach es X.env)).any (·.1) = false := by rfl) :
    L2N.PMk X (.Call (.Name x p) (e :: es) [] pos) (tMkO C sp dvs ta) := by
  intro pins s σ H Q I h
  have T0 := T
  obtain ⟨n1, n2, n3, n4, bm, n5, n6, n7, n8, n9, n10, n11, n12, n13, n14, hC, hbm⟩ := T0.cls
  refine wpAny_Call_Name_kw (ld_glob I hg hm ?_ hdb)
  refine PySem.W.callWith_K (h₀ := X.base) I.ok.mod.kin T.kC (thn (ha.run pos pins s σ H _ I h) fun us s1 ⟨vs, H1, I1, r1, hz, q1⟩ => ⟨I1.kIn, ?_⟩) he hpl
  show wpAny _ _ (call (.ref C) us) _ _ _
  obtain ⟨hp, g, dr, tk, os⟩ := s1
  have h01 : hp.objs.size ≤ hp.objs.size + 1 := Nat.le_succ _
  have free : H1 (hp.objs.size + 1) = none := I1.hok.fresh h01
  have hq := q1 (hp.objs.size + 1) free
  have keeps : ∀ b o, hp.get? b = some o → ((hp.push (PySem.W.kdv_tup us)).push (PySem.HandSPX.excO C hp.objs.size)).get? b = some o := fun b o z => Heap.get?_push_of_some _ (Heap.get?_push_of_some _ z)
  have new : ((hp.push (PySem.W.kdv_tup us)).push (PySem.HandSPX.excO C hp.objs.size)).get? (hp.objs.size + 1) = some (PySem.HandSPX.excO C hp.objs.size) := by heap_get
  have I2 := I1.laid (t' := tk) (a := hp.objs.size + 1) (o := exo (hp.objs.size + 1) C none) (h' := (hp.push (PySem.W.kdv_tup us)).push (PySem.HandSPX.excO C hp.objs.size)) keeps h01 (exo_ok new)
  have r2 : Vals (V.ref (hp.objs.size + 1) :: (vs ++ dvs)) (Value.ref (hp.objs.size + 1) :: (us ++ ds)) := .cons rfl (r1.append hd)
  have ln : (Value.ref (hp.objs.size + 1) :: us ++ ds).length = ps.length := (r2.length.symm.trans (F1.len _ _ _ _ hq) : _)
  have few : us.length ≤ sizeLine := by rw [← Paired.length r1, sizeLine_eq]; omega
  refine wpAny_call (PySem.HandSPX.call_own F.excBase_ValueError (fun Y => PySem.HandSPX.refsVE_contains Y bm hbm) (I1.kIn _ _ hC) (PySem.W.looks_findIn I1.kIn iC) (fun self => PySem.W.bind_fn I1.kIn self tI) few
    (codeAny_mono (F1.run _ X.stack _ _ ⟨Value.ref (hp.objs.size + 1) :: us, []⟩ (Value.ref (hp.objs.size + 1) :: (us ++ ds)) _ _ (fun _ _ _ => False) (hr.make C us []) (I2.env0.make C us []) (hb _ (Value.ref (hp.objs.size + 1) :: us) I2.kIn ln) r2 hq) fun r s' hq' => ?_))
  cases r with
  | error er => exact hx pins σ _ _ er s' I2 hq'
  | ok fl =>
    cases fl with
    | next => exact False.elim hq'
    | brk => exact False.elim hq'
    | cont => exact False.elim hq'
    | ret u =>
      obtain ⟨v, H2, os2, bare2, un2, hok2, rv, ev, d, fs, ea, ed, hd1, q2⟩ := hq'
      subst ev
      obtain ⟨h2, g2, d2, t2, os'⟩ := s'
      obtain ⟨t0, G, J, kG, ge, hoe, na⟩ := mk_end0 (d2 := d2) (t2 := t2) I1 h01 keeps un2 hok2 os2 bare2 ea ed hd1
      exact ⟨rv, hp.objs.size + 1, _, _, ⟨G, g2, d2, t2, os'⟩, _, .ref C, some d, rfl, J, kG, ge, hoe, ⟨rfl, rfl, fun vs z => by cases z; rfl⟩, rfl, rfl, na, rfl, bare2, raises_own T.exC T.tyC, q2⟩
end
/-- the promise: by the class's address -/
abbrev SpE := Addr → Option Addr → Hp → VK → XK → Prop
structure FnE (P : Program) (w : World) (K : PySem.W.Frag) (mg : Str → Option Value) (base : Heap) (CX : CXT) (k : Nat) (f : Addr) (fd : FuncData) (x : Str) (sp : SpE) : Prop where
  run : ∀ (A : Around) (outer : List Env) (s : Shared) (H : Hp) (args : Args) (Q : VK) (E : XK) (p : Addr × Obj) (D : Addr) (d : Option Addr), RoomH k A → Hot1 A p → PinOk outer H s p → Zc (.ref D) d p.2 → Env0 P w K mg base A outer s H → BindsTo s fd args [(x, .ref p.1)] → sp D d H Q E →
    codeAny (model P w) A (.call (.ref f) args) (CR CX outer P w H s Q E) s
theorem fn_ofE {CX : CXT} {P : Program} {w : World} {K : PySem.W.Frag} {mg : Str → Option Value} {base : Heap} {k : Nat} {f : Addr} {name qual x : Str} {params : Arguments} {body : List Stmt} {scope : Scope} {dV kV doc pm cdv ct oc : Value} {an od : Option Addr}
    {osl : Array (Option Value)} {N : List Str} {sp : SpE} (lk : K.lookup f = some ⟨oc, od, .func (PySem.W.fnOf name qual params body scope dV kV doc pm an cdv ct), osl⟩) (hcd : PySem.W.codeIn K cdv qual = true) (S : FnScope N [x] scope)
    (hbody : ∀ (A : Around) (outer : List Env) (s : Shared) (H : Hp) (Q : VK) (E : XK) (p : Addr × Obj) (D : Addr) (d : Option Addr), Hot1 A p → Zc (.ref D) d p.2 → RoomH k (A.deeper (envOfC qual scope s.heap.objs.size f cdv)) → sp D d H Q E →
      ∃ t, PSs (cxH CX P w K mg base N qual scope f cdv A outer s H E p) body t ∧ t { nx := fun _ H' => Q .non H', rt := Q } (L2.start N [.ref p.1]) H) :
    FnE P w K mg base CX (k + 1) f (PySem.W.fnOf name qual params body scope dV kV doc pm an cdv ct) x sp := by
  refine ⟨fun A outer s H args Q E p D d hr hot hpin hz e0 hb hsp => ?_⟩
  have KX : K.In s.heap := e0.mod.kin.keeps fun b o e => (e0.bs b o e).1
  have kinds : ∀ y ∈ [(x, Value.ref p.1)], scope.names.lookup y.1 = some .local ∨ (scope.names.lookup y.1 = some .cell ∧ ((cellsFrom (s.heap.objs.size + 1) scope.names []).lookup y.1).isSome = true) := fun y hy => by
    have : y = (x, Value.ref p.1) := List.mem_singleton.mp hy
    subst this
    exact (S.par x (List.mem_singleton.mpr rfl)).elim .inl fun q => .inr ⟨q, PySem.W.cellsFrom_some _ _ _ (.inl q)⟩
  refine codeAny_call_function hr.depth (KX _ _ lk) rfl S.co S.gen rfl (PySem.W.codeRec_of KX hcd) (hb _ _ _ _ (wpAny_newFunctionEnv_cells S.kind kinds fun env he s1 x1 => ?_))
  subst he
  refine ⟨(e0.mod.nolimit.keeps fun b o e => (e0.bs b o e).1).keeps x1.toInCall.keep, codeAny_func ?_⟩
  obtain ⟨t, ht, hq⟩ := hbody A outer s H Q E p D d hot hz (hr.deeper _) hsp
  have I : Inv (cxH CX P w K mg base N qual scope f cdv A outer s H E p) [] (L2.start N [.ref p.1]) H s1 := inv_startH (us := [.ref p.1]) (ps := [x]) S hpin e0 rfl (.cons rfl .nil) x1
  refine wpAny_mono (ht.run [] s1 _ H _ I hq) (fun fl s' hs => ?_) fun e s' hs => hs
  cases fl with
  | ret u =>
    obtain ⟨v, σ', H', J, rv, q⟩ := hs
    exact ⟨v, H', J.os, J.bare, J.base, J.hok, rv, q⟩
  | next =>
    obtain ⟨σ', H', J, q⟩ := hs
    exact ⟨V.non, H', J.os, J.bare, J.base, J.hok, rfl, q⟩
  | brk =>
    obtain ⟨_, _, _, q⟩ := hs
    exact False.elim q
  | cont =>
    obtain ⟨_, _, _, q⟩ := hs
    exact False.elim q
theorem vals_ref1 {a : Addr} {us : List Value} (r : Vals [V.ref a] us) : us = [.ref a] := by
  cases r with
  | cons rx rr =>
    cases rr
    cases rx
    rfl
section
variable {X : Cx} {CX : CXT} {k : Nat} {f : Addr} {fd : FuncData} {ps : List Str} {sp : SpE} {E : L2.St → XK} {x m : Str} {q pos : Pos} {e : Expr} {t : TA}
/-- the call, the caught exception (at a, its class at D) being the argument -/
def tCallE (a D : Addr) (d : Option Addr) (sp : SpE) (E : L2.St → XK) (t : TA) : TE := fun σ H Q => t σ H fun vs H1 => vs = [.ref a] ∧ sp D d H1 Q (E σ)
theorem pe_callE {a D : Addr} {d : Option Addr} {oe : Obj} (F : FnE X.prog X.w X.K X.mg X.base CX k f fd m sp) (hr : RoomH k X.A) (hot : Hot1 X.A (a, oe)) (hp : (a, oe) ∈ X.pn) (hz : Zc (.ref D) d oe) (hg : Gl X x) (hm : X.mg x = some (.ref f)) (hk : PySem.W.keepIn X.K (.ref f) = true) (hb : Binds X.K fd [m] []) (hx : ∀ σ, PassesAt CX X σ (E σ))
    (ha : PA X [e] t) (hdb : (x == ("__debug__" : Str)) = false := by decide) (he : starEach [e] X.env = (false, eval e X.env) :: starEach [] X.env := by rfl) (hpl : (backTo pos (starEach [] X.env)).any (·.1) = false := by rfl) :
    PE X (.Call (.Name x q) [e] [] pos) (tCallE a D d sp E t) := by
  refine ⟨fun pins s σ H Q I h => ?_⟩
  refine wpAny_Call_Name_kw (ld_glob I hg hm ?_ hdb)
  refine PySem.W.callWith_K (h₀ := X.base) I.ok.mod.kin hk (thn (ha.run pos pins s σ H _ I h) fun us s1 ⟨vs, H1, I1, r, ev, qv⟩ => ⟨I1.kIn, ?_⟩) he hpl
  subst ev
  obtain rfl : us = [.ref a] := vals_ref1 r
  have b := hb s1 [.ref a] I1.kIn rfl
  have P1 := I1.pin (a, oe) (List.mem_append_left _ hp)
  have hpin : PinOk X.stack H1 s1 (a, oe) := ⟨P1.1, P1.2.1, fun hm => (List.mem_cons.mp (I1.stkSub a hm)).elim P1.2.2.1 P1.2.2.2.1, P1.2.2.2.2⟩
  refine wpAny_call (codeAny_mono (F.run X.A X.stack s1 H1 ⟨[.ref a], []⟩ Q (E σ) (a, oe) D d hr hot hpin hz I1.env0 b qv) fun r s' hq => ?_)
  cases r with
  | error e => exact hx σ pins H1 s1 e s' I1 hq
  | ok fl =>
    cases fl with
    | ret u => exact I1.after hq
    | next => exact False.elim hq
    | brk => exact False.elim hq
    | cont => exact False.elim hq
/-- isinstance(e, c), e the pinned exception -/
def rIsE (K : PySem.W.Frag) (D : Addr) (d : Option Addr) (a : Addr) : List V → Hp → VK → Prop := fun xs H Q => ∃ (c : V) (cv : Value) (b : Bool), xs = [.ref a, c] ∧ (∀ u, RelV c u → u = cv) ∧ PySem.W.kitOne K (.ref D) cv = some b ∧ DOk H d ∧ Q (.bl b) H
theorem call_isP {a D : Addr} {d : Option Addr} {oe : Obj} (hp : (a, oe) ∈ X.pn) (C : ExcC X.K D) (hz : Zc (.ref D) d oe) (hf : ∃ vs, oe.data = .fields vs) : CallR X (.builtin "isinstance") (rIsE X.K D d a) := by
  intro pins s σ H xs us Q I r h
  obtain ⟨c, cv, b, rfl, hcv, e, hd, q⟩ := h
  cases r with
  | cons rx rr =>
  cases rr with
  | cons rt rr =>
  cases rr
  cases rx
  have ec := hcv _ rt
  subst ec
  obtain ⟨od, J⟩ := inst_pin I hp hz hf hd
  exact PySem.W.kia_one (PySem.W.kitx_exc (excC_has C) C.hg C.hk C.hs C.ha C.hn C.ht C.hm) I.kIn J e (fun z => nomatch z) fun tk => ⟨.bl b, H, I.kept (t' := tk) fun _ _ z => z, rfl, q⟩
/-- isinstance(e, (C, ..)), a new tuple of classes -/
def rIsET (K : PySem.W.Frag) (D : Addr) (d : Option Addr) (a : Addr) : List V → Hp → VK → Prop := fun xs H Q => ∃ (t : Addr) (cs : List Addr) (b : Bool), xs = [.ref a, .ref t] ∧ H t = some (.tup (cs.map V.ref)) ∧ PySem.W.kitAny K (.ref D) (cs.map Value.ref) = some b ∧ DOk H d ∧ Q (.bl b) H
theorem vals_refs : ∀ (cs : List Addr) {us : List Value}, Vals (cs.map V.ref) us → us = cs.map Value.ref
  | [], us, r => by cases r; rfl
  | c :: t, us, r => by
    cases r with
    | cons rx rr =>
      cases rx
      rw [vals_refs t rr]
      rfl
theorem call_isPT {a D : Addr} {d : Option Addr} {oe : Obj} (hp : (a, oe) ∈ X.pn) (C : ExcC X.K D) (hz : Zc (.ref D) d oe) (hf : ∃ vs, oe.data = .fields vs) : CallR X (.builtin "isinstance") (rIsET X.K D d a) := by
  intro pins s σ H xs us Q I r h
  obtain ⟨t, cs, b, rfl, ht, e, hd, q⟩ := h
  cases r with
  | cons rx rr =>
  cases rr with
  | cons rt rr =>
  cases rr
  cases rx
  cases rt
  obtain ⟨od, J⟩ := inst_pin I hp hz hf hd
  obtain ⟨its, rv, pt, _⟩ := I.tuple (a := t) (xs := cs.map V.ref) (.of ht)
  obtain ⟨o, ho, hc, n, hd⟩ := pt
  have ev := vals_refs cs rv
  obtain ⟨oc, od, oda, osl⟩ := o
  dsimp only at hc hd
  subst hc hd
  refine PySem.W.kia_tup (its := its) (n := n) (PySem.W.kitx_exc (excC_has C) C.hg C.hk C.hs C.ha C.hn C.ht C.hm) I.kIn J ho (by rw [ev]; exact e) (fun z => nomatch z) fun tk => ⟨.bl b, H, I.kept (t' := tk) fun _ _ z => z, rfl, q⟩
end
end UPD

set_option Elab.async false
set_option linter.all false
set_option maxRecDepth 100000
set_option maxHeartbeats 4000000
namespace UP
open PySem PySem.Spec PyProof.Rows L2
section
variable {P : Program} {w : World} {K : PySem.W.Frag} {mg : Str → Option Value} {base : Heap}
/-- a def that may raise an exception whose context is None -/
theorem okXN {x qual : Str} {st : Stmt} {f : Addr} {fd : FuncData} {N ps : List Str} {k : Nat} {sp : Sp} (F : Fun K x qual st f fd) (S : FnScope N ps (defScope st)) (len : ∀ vs H Q E, sp vs H Q E → vs.length = ps.length)
    (body : ∀ (cdv : Value) (A : Around) (outer : List Env) (s : Shared) (H : Hp) (vs : List V) (Q : VK) (E : XK), Room k (A.deeper (envOfC qual (defScope st) s.heap.objs.size f cdv)) → sp vs H Q E →
      ∃ t, PSs (cxOf (L2N.CX P w) P w K mg base N qual (defScope st) f cdv A outer s H E) (defBody st) t ∧ t { nx := fun _ H' => Q .non H', rt := Q } (start N vs) H) : FnOk P w K mg base (L2N.CX P w) (k + 1) f fd ps sp := by
  obtain ⟨oc, od, kV, doc, pm, an, cdv, ct, osl, rfl, lk, hcd⟩ := F.ex
  exact fn_of lk hcd S len fun A outer s H vs Q E hr hsp => body cdv A outer s H vs Q E hr hsp
end
end UP

set_option Elab.async false
set_option linter.all false
set_option maxRecDepth 100000
set_option maxHeartbeats 4000000
set_option pp.maxSteps 600
namespace UP
open PySem PySem.Spec PyProof.Rows L2
section
variable (P : Program) (w : World) (K : PySem.W.Frag) (mg : Str → Option Value) (base : Heap)
def HasX (k : Nat) (x : Str) (ps : List Str) (sp : Sp) : Prop :=
  ∃ f fd, mg x = some (.ref f) ∧ PySem.W.keepIn K (.ref f) = true ∧ Binds K fd ps [] ∧ FnOk P w K mg base (L2N.CX P w) k f fd ps sp
end
section
variable {P : Program} {w : World} {K : PySem.W.Frag} {mg : Str → Option Value} {base : Heap}
theorem hasX_of {x : Str} {st : Stmt} {ps N : List Str} {k : Nat} {sp : Sp} (D : Df K mg x st) (S : FnScope N ps (defScope st))
    (hb : ∀ (kV doc pm : Value) (an : Option Addr) (cdv ct : Value) (us : List Value), us.length = ps.length → bindArgs (PySem.W.fnOf x x (defArgs st) (defBody st) (defScope st) .none kV doc pm an cdv ct) ⟨us, []⟩ = pure (ps.zip us))
    (len : ∀ vs H Q E, sp vs H Q E → vs.length = ps.length)
    (body : ∀ (f : Addr) (cdv : Value) (A : Around) (outer : List Env) (s : Shared) (H : Hp) (vs : List V) (Q : VK) (E : XK), Room k (A.deeper (envOfC x (defScope st) s.heap.objs.size f cdv)) → sp vs H Q E →
      ∃ t, PSs (cxOf (L2N.CX P w) P w K mg base N x (defScope st) f cdv A outer s H E) (defBody st) t ∧ t { nx := fun _ H' => Q .non H', rt := Q } (start N vs) H) :
    HasX P w K mg base (k + 1) x ps sp := by
  obtain ⟨f, fd, g, F⟩ := D
  exact ⟨f, fd, g, F.kp, F.binds hb, okXN F S len fun cdv A outer s H vs Q E hr h => body f cdv A outer s H vs Q E hr h⟩
end
section
variable {X : Cx}
theorem pe_callXH {k : Nat} {x : Str} {ps : List Str} {sp : Sp} {W : WX} {p pos : Pos} {e : Expr} {es : List Expr} {t : TA} (G : HasX X.prog X.w X.K X.mg X.base k x ps sp) (tk : L2N.Takes X W) (hr : Room k X.A) (hg : Gl X x) (ha : PA X (e :: es) t)
    (hdb : (x == ("__debug__" : Str)) = false := by decide) (he : starEach (e :: es) X.env = (false, eval e X.env) :: starEach es X.env := by rfl) (hpl : (backTo pos (starEach es X.env)).any (·.1) = false := by rfl) :
    PE X (.Call (.Name x p) (e :: es) [] pos) (tCallS sp (WE W) t) := by
  obtain ⟨f, fd, g, kp, b, F⟩ := G
  exact pe_callS F hr hg g kp b (fun σ => L2N.passAt tk σ) ha hdb he hpl
theorem takes_no {X : Cx} : Takes X (fun _ _ _ _ => False) := fun _ _ h => by
  obtain ⟨_, _, _, _, _, _, _, _, _, _, _, _, _, _, _, _, z⟩ := h
  exact z.elim
end
/-- the class x of errors stands at C -/
structure Ex (K : PySem.W.Frag) (mg : Str → Option Value) (x : Str) (C : Addr) : Prop where
  g : mg x = some (.ref C)
  x : PySem.W.excIn K C [.type "ValueError", .type "Exception", .type "BaseException", .type "object"] "ValueError.__new__" = true
  k : PySem.W.keepIn K (.ref C) = true
  b : PySem.W.subIn K (.ref C) (.type "BaseException") = some true
  t : PySem.W.typeIn K (.ref C) = some (.type "type")
  em : PySem.W.exmOne K (.ref C) (.ref C) = some true
end UP

set_option Elab.async false
set_option linter.all false
set_option maxRecDepth 100000
set_option maxHeartbeats 4000000
set_option pp.maxSteps 500
namespace UP
open PySem PySem.Spec PyProof.Rows L2 HotX L2H UPH UPD
/-! ### the error that keeps a conflict -/
abbrev s_conflict : Stmt := inClass (topS 5) 0
theorem sc_conflict : FnScope ["self", "conflict"] ["self", "conflict"] (defScope s_conflict) := ⟨rfl, rfl, rfl, by decide +kernel, rfl, by decide +kernel, by decide +kernel⟩
/-- the class Contradiction stands at C -/
structure ConF (K : PySem.W.Frag) (mg : Str → Option Value) (C : Addr) : Prop where
  g : mg "Contradiction" = some (.ref C)
  o : OexC K C
  n : PySem.W.findIn K (.ref C) "conflict" = some none
  x : XfC K C
  em : PySem.W.exmOne K (.ref C) (.ref C) = some true
  i : ∃ (fI : Addr) (fd : FuncData), PySem.W.findIn K (.ref C) "__init__" = some (some (.ref fI)) ∧ PySem.W.typeIn K (.ref fI) = some (.type "function") ∧ Fun K "__init__" "Contradiction.__init__" s_conflict fI fd
def sp_conflict (C : Addr) : Sp := fun vs H Q _ => ∃ (a t : Addr) (ys : List V), vs = [.ref a, .ref t] ∧ H a = some (exo a C none) ∧ H t = some (.tup ys) ∧ FlatC ys ∧ ∀ H1 dx u, Same H H1 → H u = none → H1 u = some (.tup ys) → H1 dx = none → dx ≠ a → Q .non (upd (upd H1 dx (exd dx [("conflict", .ref u)])) a (exo a C (some dx)))
section
variable {P : Program} {w : World} {K : PySem.W.Frag} {mg : Str → Option Value} {base : Heap}
theorem ok_conflict {f C : Addr} {fd : FuncData} (F : Fun K "__init__" "Contradiction.__init__" s_conflict f fd) (O : OexC K C) (N : PySem.W.findIn K (.ref C) "conflict" = some none) (G_copied : Has P w K mg base 3 "copied" ["value"] sp_copied) : FnOk P w K mg base CX0 4 f fd ["self", "conflict"] (sp_conflict C) := by
  refine F.ok sc_conflict (fun vs H Q E h => ?_) (fun cdv A outer s H vs Q E hr h => ?_)
  · obtain ⟨a, t, ys, rfl, _⟩ := h
    rfl
  · obtain ⟨a, t, ys, rfl, ha, ht, fl, q⟩ := h
    refine ⟨_, pss_one (ps_ost (pv 0) (pe_callH G_copied (hr.mono (by omega)) (by rfl) (pa_cons (pv 1) pa_nil))), ?_⟩
    refine ⟨_, rfl, t, ys, rfl, ht, fl, fun H1 u s1 nu hu => ?_⟩
    exact ⟨_, rfl, a, C, rfl, O, N, .inl ⟨s1 _ _ ha, fun dx nd ne => q _ _ _ s1 nu hu nd ne⟩⟩
def sp_certain_kindsX (CI : Addr) : Sp := fun vs H Q E => ∃ (a : Addr) (v : V) (ks : List Str) (es : List En), vs = [.ref a, v] ∧ Sq2 H a (ks.map V.str) ∧ KsOk ks ∧ RecG H v es ∧ InK ks es ∧ es.length ≤ 400 ∧
  (cfE ks es = none → ∀ H' p, Same H H' → H p = none → H' p = some (.lst ((cerE ks es).map koV)) → Q (.ref p) H') ∧
  ∀ c, cfE ks es = some c → ∀ H' dx u, Same H H' → H' dx = some (.xd [("conflict", .ref u)]) → H' u = some (.tup (cfL c)) → E (.ref CI) (some dx) H'
theorem okX_certain_kinds {CI : Addr} (D : Df K mg "certain_kinds" s_certain_kinds) (T : Tx mg) (I1 : ConF K mg CI) (G_copied : Has P w K mg base 3 "copied" ["value"] sp_copied) (G_checked_entries : Has P w K mg base 4 "checked_entries" ["kinds", "record"] sp_checked_entries) (G_conflict_in : Has P w K mg base 4 "conflict_in" ["kinds", "entries"] sp_conflict_in) (G_epochs_of : Has P w K mg base 1 "epochs_of" ["entries"] sp_epochs_of) (G_waiting_options : Has P w K mg base 2 "waiting_options" ["kinds", "epoch"] sp_waiting_options) (G_certain_kind : Has P w K mg base 2 "certain_kind" ["kinds", "options", "entry"] sp_certain_kind) : HasX P w K mg base 6 "certain_kinds" ["kinds", "record"] (sp_certain_kindsX CI) := by
  refine hasX_of D sc_certain_kinds (fun _ _ _ _ _ _ us hl => match us, hl with | [_, _], _ => rfl) (fun vs H Q E h => ?_) (fun f cdv A outer s H vs Q E hr h => ?_)
  · obtain ⟨_, _, _, _, rfl, _⟩ := h
    rfl
  · obtain ⟨a, v, ks, es, rfl, ha, kso, hv, ink, l4, q0, qe⟩ := h
    obtain ⟨fI, fdI, iC, tI, FI⟩ := I1.i
    have F1 := ok_conflict (P := P) (w := w) (base := base) FI I1.o I1.n G_copied
    have b1 := FI.binds (ps := ["self", "conflict"]) fun _ _ _ _ _ _ us hl => match us, hl with | [_, _], _ => rfl
    refine ⟨_, (pss_cons (ps_set (i := 2) sc_certain_kinds.nd rfl (by first | exact Or.inl rfl | exact Or.inr rfl) (pe_callH G_checked_entries (hr.mono (by omega)) (by rfl) (pa_cons (pv 0) (pa_cons (pv 1) pa_nil))))
    (pss_cons (ps_set (i := 3) sc_certain_kinds.nd rfl (by first | exact Or.inl rfl | exact Or.inr rfl) (pe_callH G_conflict_in (hr.mono (by omega)) (by rfl) (pa_cons (pv 0) (pa_cons (pv 2) pa_nil))))
    (pss_cons (ps_if (pt_cmpR op_notN (pv 3) pe_non (nomark _)) (pss_one (L2N.ps_raise rfl (L2N.takes_of rfl rfl rfl rfl) (pmk_oexN I1.o iC tI F1 (hr.mono (by omega)) b1 .nil (fun _ _ _ _ _ _ _ h => h.elim) (by rfl) I1.g (pa_cons (pv 3) pa_nil)))) pss_nil)
    (pss_cons (ps_set (i := 4) sc_certain_kinds.nd rfl (by first | exact Or.inl rfl | exact Or.inr rfl) (pe_lst pa_nil))
    (pss_cons (ps_for (passes_of rfl) rfl (pi_list (pe_callH G_epochs_of (hr.mono (by omega)) (by rfl) (pa_cons (pv 2) pa_nil))) (pg_name (i := 5) sc_certain_kinds.nd rfl (by first | exact Or.inl rfl | exact Or.inr rfl))
      (pss_cons (ps_set (i := 6) sc_certain_kinds.nd rfl (by first | exact Or.inl rfl | exact Or.inr rfl) (pe_callH G_waiting_options (hr.mono (by omega)) (by rfl) (pa_cons (pv 0) (pa_cons (pv 5) pa_nil))))
    (pss_one (ps_expr (pe_bm PySem.F.plainAttrs_list PySem.F.slot_list_extend PySem.F.type_list_extend mt_extend (pv 4) (pa_cons (pe_lc (own := [("entry", 7)]) rfl sc_certain_kinds.nd (pi_list (pv 5)) (blkOk_by (N := ["kinds", "record", "entries", "conflict", "certain", "epoch", "options", "entry"]) (sc := defScope s_certain_kinds) (by decide +kernel)) (fun _ _ _ _ _ => (pg_name (i := 7) sc_certain_kinds.nd rfl (by first | exact Or.inl rfl | exact Or.inr rfl))) (fun _ _ _ _ _ => pts_nil) (fun _ _ _ _ _ => (pe_callH G_certain_kind (hr.mono (by omega)) (by rfl) (pa_cons (pv 0) (pa_cons (pv 6) (pa_cons (pv 7) pa_nil)))))) pa_nil))))))
    (pss_one (ps_ret (pv 4)))))))), ?_⟩
    have ok : ∀ e ∈ es, EnOk e := fun e he k hk => kso.2.2.1 k (ink e he k hk)
    refine ⟨_, rfl, _, rfl, a, v, ks, es, rfl, ha, kso, hv, ink, l4, fun H1 p1 s1 n1 h1 => ?_⟩
    refine ⟨_, rfl, _, rfl, a, p1, ks, es, rfl, ha.same s1, kso.2.1, h1, ok, l4, fun H2 v2 s2 h2 => ?_⟩
    cases hcf : cfE ks es with
    | some c =>
      rw [hcf] at h2
      obtain ⟨t, rfl, ht⟩ : CfV H2 v2 c := h2
      have s12 := s1.trans s2
      have fl : FlatC (cfL c) := by
        cases c with
        | lev l => exact ⟨by show 2 ≤ 1000; decide, fun y hy => by
            simp only [cfL, List.mem_cons, List.not_mem_nil, or_false] at hy
            rcases hy with h | h
            · exact .inl ⟨_, h⟩
            · exact .inr ⟨_, h⟩⟩
        | thr w a l => exact ⟨by show 3 ≤ 1000; decide, fun y hy => by
            simp only [cfL, List.mem_cons, List.not_mem_nil, or_false] at hy
            rcases hy with h | h | h
            · exact .inl ⟨_, h⟩
            · exact .inr ⟨_, h⟩
            · exact .inr ⟨_, h⟩⟩
      refine ⟨_, rfl, rfl, _, rfl, iteP rfl ⟨_, rfl, (by show 1 ≤ 1000; decide), fun ea na => ?_⟩⟩
      have ta : t ≠ ea := ne_of_none ht na
      refine ⟨ea, t, cfL c, rfl, upd_same, by rw [upd_ne ta]; exact ht, fl, fun H4 dx u s4 nu hu nd ne => ⟨rfl, dx, _, upd_same, by rw [upd_ne ne, upd_same], ?_, ?_⟩⟩
      · exact (same_upd na).free (s4.free nd)
      · have ue : u ≠ ea := fun z => by rw [z, upd_same] at nu; cases nu
        have ud : u ≠ dx := fun z => by rw [z, nd] at hu; cases hu
        refine qe c hcf _ dx u (fun b o hb => ?_) upd_same ?_
        · have hb3 := s12 _ _ hb
          have ba : b ≠ ea := ne_of_none hb3 na
          have hb4 := s4 _ _ (same_upd (o := exo ea CI none) na _ _ hb3)
          have bd : b ≠ dx := ne_of_none hb4 nd
          rw [upd_ne bd, del_ne ba, upd_ne ba, upd_ne bd]
          exact hb4
        · rw [upd_ne ud, del_ne ue, upd_ne ue, upd_ne ud]
          exact hu
    | none =>
    have q := q0 hcf
    have nopt := fun ep he => noC_opt ((cf_gen (ks_nodup kso) ink hcf).1 ep he) fun e hm => ink e (eps_mem he e hm)
    rw [hcf] at h2
    cases (show v2 = .non from h2)
    refine ⟨_, rfl, rfl, _, rfl, iteN yes_non ?_⟩
    have s12 := s1.trans s2
    have hb2 := h1.same s2
    have ha2 := ha.same s12
    refine ⟨Nat.zero_le _, fun N0 nN => ?_⟩
    have aN := sq_ne ha2 nN
    have sN := same_upd (o := .lst []) nN
    have hN1 : (upd H2 N0 (.lst [])) N0 = some (.lst []) := upd_same
    refine ⟨_, rfl, p1, es, rfl, hb2.same sN, l4, fun H4 p4 refs s4 np hp4 hrf nrf => ?_⟩
    have p4N : p4 ≠ N0 := fun z => by rw [z, hN1] at np; cases np
    have rfN : ∀ t, V.ref t ∈ refs → t ≠ N0 := fun t ht z => by have := nrf t ht; rw [z, hN1] at this; cases this
    have hN4 := s4 _ _ hN1
    have ha4 := (ha2.same sN).same s4
    have sH4 : Same H2 H4 := sN.trans s4
    have lrf := Paired.len hrf
    refine ⟨p4, rfl, ⟨refs, .of hp4⟩, for_list (K := K) (a := p4) (xs := refs) (fun i σ H' => ∃ y5 y6, σ = [some (.ref a), some v, some (.ref p1), some .non, some (.ref N0), y5, y6, none] ∧ But N0 H4 H' ∧ H' N0 = some (.lst ((((epsE es).take i).flatMap fun ep => ep.map (cerK ks (optW ks ep))).map koV))) ⟨none, none, rfl, But.refl, hN4⟩ (fun i σ H' _ hP => ?_) (fun i x σ H5 ex hP => ?_) (fun σ H5 hP => ?_)⟩
    · obtain ⟨_, _, _, b3, _⟩ := hP
      exact .of (b3 _ _ p4N hp4)
    · obtain ⟨y5, y6, rfl, b5, hN5⟩ := hP
      obtain ⟨ep, eep, t, rfl, hrec⟩ := Paired.at hrf ex
      have mep : ep ∈ epsE es := List.mem_of_getElem? eep
      have ne := eps_ne ep mep
      have lep : ep.length ≤ 400 := Nat.le_trans (ep_len mep) l4
      have tN := rfN t (List.mem_of_getElem? ex)
      have hrec5 := hrec.but hN4 tN b5
      have ha5 := sq_but aN b5 ha4
      have lns : (((epsE es).take i).flatMap fun ep => ep.map (cerK ks (optW ks ep))).length ≤ 400 := by
        rw [cer_len]
        have := flat_take (L := epsE es) (i := i)
        rw [eps_join] at this
        omega
      have nop := nopt ep mep
      rw [take_snoc eep, List.flatMap_append, List.flatMap_cons, List.flatMap_nil, List.append_nil]
      generalize ((epsE es).take i).flatMap (fun ep => ep.map (cerK ks (optW ks ep))) = ns at *
      refine ⟨_, rfl, _, rfl, a, t, ks, ep, rfl, ha5, kso.2.1, hrec5, ne, lep, fun H6 p6 s6 n6 h6 => ?_⟩
      obtain ⟨xs, hx, hp⟩ := hrec5.same s6
      have ha6 := ha5.same s6
      have hN6 := s6 _ _ hN5
      have lx := Paired.len hp
      refine ⟨_, rfl, .inl ⟨rfl, _, SqL.of hN6⟩, _, rfl, t, rfl, ⟨xs, .of hx⟩, fun L nL => lc_list (K := K) (a := t) (xs := xs) (fun j H' => Same H6 H' ∧ H' L = some (.lst (((ep.take j).map (cerK ks (optW ks ep))).map koV))) ⟨same_upd nL, upd_same⟩ (fun j H' _ p => .of (p.1 _ _ hx)) (fun j x H7 ex p => ?_) (fun H7 p => ?_)⟩
      · obtain ⟨sm, hL⟩ := p
        obtain ⟨e, ee, he⟩ := Paired.at hp ex
        have hj : j < xs.length := (List.getElem?_eq_some_iff.mp ex).1
        refine ⟨rfl, yesT ⟨_, rfl, _, rfl, _, rfl, a, p6, x, ks, optW ks ep, e, rfl, ha6.same sm, kso.2.1, sm _ _ h6, nop, he.same sm, fun H8 s8 => ⟨_, s8 _ _ hL, ?_, same_grow nL (sm.trans s8), ?_⟩⟩⟩
        · simp only [List.length_map, List.length_take]
          exact small (by omega)
        · rw [upd_same, take_snoc ee, List.map_append, List.map_append]
          rfl
      · obtain ⟨sm, hL⟩ := p
        rw [lx, List.take_length] at hL
        refine ⟨N0, L, _, _, rfl, rfl, sm _ _ hN6, hL, ?_, _, _, rfl, ?_, ?_⟩
        · simp only [List.length_map]
          exact smallE (by omega)
        · exact b5.trans ((Same.but (s6.trans sm)).trans but_upd)
        · rw [upd_same, ← List.map_append]
    · obtain ⟨y5, y6, rfl, b5, hN5⟩ := hP
      rw [lrf, List.take_length] at hN5
      exact ⟨_, rfl, q _ _ (fun c o e => b5 _ _ (ne_of_none e (s12.free nN)) (sH4 _ _ (s12 _ _ e))) (s12.free nN) hN5⟩
end
end UP

set_option Elab.async false
set_option linter.all false
set_option maxRecDepth 100000
set_option maxHeartbeats 4000000
set_option pp.maxSteps 300
namespace UP
open PySem PySem.Spec PyProof.Rows L2
/-! ### defs that call repr: no other repr is under way around them -/
structure FnG (P : Program) (w : World) (K : PySem.W.Frag) (mg : Str → Option Value) (base : Heap) (k : Nat) (f : Addr) (fd : FuncData) (ps : List Str) (sp : Sp) : Prop where
  len : ∀ vs H Q E, sp vs H Q E → vs.length = ps.length
  run : ∀ (A : Around) (outer : List Env) (s : Shared) (H : Hp) (args : Args) (us : List Value) (vs : List V) (Q : VK) (E : XK), Room k A → A.guards = some [] → Env0 P w K mg base A outer s H → BindsTo s fd args (ps.zip us) → Vals vs us → sp vs H Q E →
    codeAny (model P w) A (.call (.ref f) args) (CR CX0 outer P w H s Q E) s
def HasG (P : Program) (w : World) (K : PySem.W.Frag) (mg : Str → Option Value) (base : Heap) (k : Nat) (x : Str) (ps : List Str) (sp : Sp) : Prop :=
  ∃ f fd, mg x = some (.ref f) ∧ PySem.W.keepIn K (.ref f) = true ∧ Binds K fd ps [] ∧ FnG P w K mg base k f fd ps sp
section
variable {P : Program} {w : World} {K : PySem.W.Frag} {mg : Str → Option Value} {base : Heap}
theorem hasG_of {x : Str} {st : Stmt} {ps N : List Str} {k : Nat} {sp : Sp} (D : Df K mg x st) (S : FnScope N ps (defScope st))
    (hb : ∀ (kV doc pm : Value) (an : Option Addr) (cdv ct : Value) (us : List Value), us.length = ps.length → bindArgs (PySem.W.fnOf x x (defArgs st) (defBody st) (defScope st) .none kV doc pm an cdv ct) ⟨us, []⟩ = pure (ps.zip us))
    (len : ∀ vs H Q E, sp vs H Q E → vs.length = ps.length)
    (body : ∀ (f : Addr) (cdv : Value) (A : Around) (outer : List Env) (s : Shared) (H : Hp) (vs : List V) (Q : VK) (E : XK), Room k (A.deeper (envOfC x (defScope st) s.heap.objs.size f cdv)) → A.guards = some [] → sp vs H Q E →
      ∃ t, PSs (cxOf CX0 P w K mg base N x (defScope st) f cdv A outer s H E).nox (defBody st) t ∧ t { nx := fun _ H' => Q .non H', rt := Q } (start N vs) H) :
    HasG P w K mg base (k + 1) x ps sp := by
  obtain ⟨f, fd, g, F⟩ := D
  refine ⟨f, fd, g, F.kp, F.binds hb, len, ?_⟩
  obtain ⟨oc, od, kV, doc, pm, an, cdv, ct, osl, rfl, lk, hcd⟩ := F.ex
  intro A out s H args us vs Q E hr gd e0 hb rv hsp
  have inS : K.In s.heap := e0.mod.kin.keeps fun b o z => (e0.bs b o z).1
  have noL : s.heap.NoLimit := e0.mod.nolimit.keeps fun b o z => (e0.bs b o z).1
  have kinds : ∀ y ∈ ps.zip us, (defScope st).names.lookup y.1 = some .local ∨ ((defScope st).names.lookup y.1 = some .cell ∧ ((cellsFrom (s.heap.objs.size + 1) (defScope st).names []).lookup y.1).isSome = true) := by
    intro y hy
    rcases S.par y.1 (List.of_mem_zip (a := y.1) (b := y.2) hy).1 with z | z
    · exact Or.inl z
    · exact Or.inr ⟨z, PySem.W.cellsFrom_some _ _ _ (Or.inl z)⟩
  refine codeAny_call_function hr.depth (inS _ _ lk) rfl S.co S.gen rfl (PySem.W.codeRec_of inS hcd) (hb _ _ _ _ ?_)
  refine wpAny_newFunctionEnv_cells S.kind kinds fun env he s1 inC => ?_
  subst he
  refine ⟨noL.keeps inC.toInCall.keep, codeAny_func ?_⟩
  obtain ⟨t, ht0, hq⟩ := body f cdv A out s H vs Q E (hr.deeper _) gd hsp
  have ht := PSs.nox ht0
  have I0 : Inv (cxOf CX0 P w K mg base N x (defScope st) f cdv A out s H E) [] (start N vs) H s1 := inv_start S hr.hd e0 (len _ _ _ _ hsp) rv inC
  refine wpAny_mono (ht.run [] s1 (start N vs) H _ I0 hq) (fun fl s2 h2 => ?_) fun _ _ z => z
  cases fl with
  | next =>
    obtain ⟨σ2, H2, J, q2⟩ := h2
    exact ⟨V.non, H2, J.os, J.bare, J.base, J.hok, rfl, q2⟩
  | ret u =>
    obtain ⟨v, σ2, H2, J, rv2, q2⟩ := h2
    exact ⟨v, H2, J.os, J.bare, J.base, J.hok, rv2, q2⟩
  | brk =>
    obtain ⟨_, _, _, z⟩ := h2
    exact z.elim
  | cont =>
    obtain ⟨_, _, _, z⟩ := h2
    exact z.elim
end
section
variable {X : Cx}
theorem pe_callGH {k : Nat} {x : Str} {ps : List Str} {sp : Sp} {p pos : Pos} {e : Expr} {es : List Expr} {t : TA} (G : HasG X.prog X.w X.K X.mg X.base k x ps sp) (gd : X.A.guards = some []) (hr : Room k X.A) (hg : Gl X x) (ha : PA X (e :: es) t)
    (hdb : (x == ("__debug__" : Str)) = false := by decide) (he : starEach (e :: es) X.env = (false, eval e X.env) :: starEach es X.env := by rfl) (hpl : (backTo pos (starEach es X.env)).any (·.1) = false := by rfl) :
    PE X (.Call (.Name x p) (e :: es) [] pos) (tCall sp [] E0 t) := by
  obtain ⟨f, fd, g, kp, hb, F⟩ := G
  refine ⟨fun pins s σ H Q I h => ?_⟩
  refine wpAny_Call_Name_kw (ld_glob I hg g ?_ hdb)
  refine PySem.W.callWith_K (h₀ := X.base) I.ok.mod.kin kp (thn (ha.run pos pins s σ H _ I h) fun us s1 ⟨vs, H1, I1, r, q⟩ => ⟨I1.kIn, ?_⟩) he hpl
  have r2 : Vals (vs ++ []) (us ++ []) := r.append .nil
  have hl : (us ++ []).length = ps.length := by rw [← r2.length]; exact F.len _ _ _ _ q
  refine wpAny_call (codeAny_mono (F.run X.A X.stack s1 H1 ⟨us, []⟩ (us ++ []) (vs ++ []) Q E0 hr gd I1.env0 (hb s1 us I1.kIn hl) r2 q) fun r s' hq => ?_)
  cases r with
  | error e => exact pass0 pins σ H1 s1 e s' I1 hq
  | ok fl =>
    cases fl with
    | ret u => exact I1.after hq
    | next => exact False.elim hq
    | brk => exact False.elim hq
    | cont => exact False.elim hq
/-- repr of a list, a tuple or None -/
def rReprV (K : PySem.W.Frag) : List V → Hp → VK → Prop := fun xs H Q => (xs = [.non] ∧ Q (.str (PyData.none).shown) H) ∨ rRepr K xs H Q
theorem call_reprV {X : Cx} (hg : X.A.guards = some []) (hu : X.A.units + 70 < cLine) : CallR X (.builtin "repr") (rReprV X.K) := by
  intro pins s σ H xs us Q I r h
  rcases h with ⟨rfl, q⟩ | h
  · obtain ⟨u, rfl, ru⟩ := vals1 r
    obtain rfl : u = Value.none := ru
    exact PySem.P.repr_of_none ⟨.str (PyData.none).shown, H, I.kept (t' := s.toks + 1) (fun _ _ e => e), ⟨s.toks, rfl⟩, q⟩
  · exact call_reprD hg hu pins s σ H xs us Q I r h
end
end UP

set_option Elab.async false
set_option linter.all false
set_option maxRecDepth 100000
set_option maxHeartbeats 4000000
/-! walks of any kind while an exception is handled -/
namespace UPH
open PySem PySem.Spec PyProof.Rows L2 HotX L2H
section
variable {X : Cx}
/-- the core of a list comprehension over anything that is walked, an exception being handled -/
theorem lc_hotI {pins : List (Addr × Obj)} {s : Shared} {σ : L2.St} {H : Hp} {Q : VK} {elt tg iter : Expr} {ifs : List Expr} {scope : Scope} {own : List (Str × Nat)} {pos pos' : Pos} {wi : TI} {g : TG} {tt : TT} {te : TE} {use : Option (Value → Sem Unit)} {Qf : Value → Shared → Prop}
    (hc : HotC X) (hN : X.N.Nodup) (I : Inv X pins σ H s) (hi : PIH X tg iter wi) (ok : BlkOk X.N X.env.scope scope own)
    (hg : ∀ (s : Shared) (H : Hp) (C : Addr) (cl : List (Str × Addr)) (fp : List Addr) (p : Addr × Obj), Hot1 X.A p → PG (blkH X s H scope (compEnvC scope cl C X.env) fp p) tg g)
    (ht : ∀ (s : Shared) (H : Hp) (C : Addr) (cl : List (Str × Addr)) (fp : List Addr) (p : Addr × Obj), Hot1 X.A p → PTs (blkH X s H scope (compEnvC scope cl C X.env) fp p) ifs tt)
    (he : ∀ (s : Shared) (H : Hp) (C : Addr) (cl : List (Str × Addr)) (fp : List Addr) (p : Addr × Obj), Hot1 X.A p → PE (blkH X s H scope (compEnvC scope cl C X.env) fp p) elt te)
    (hs : ∀ x, foldedSetIterable iter X.env x = pure x)
    (h : tLc wi g tt te (own.map (·.2)) σ H Q)
    (hRR : ∀ D C s' m H', Inv X pins σ H' s' → Q (.ref D) H' → s'.heap.Ns C m → FpOk X pins H' C → compPost (model X.prog X.w) X.A X.xe use Qf (.ref D) C (.ok .next) s') :
    wpAny (model X.prog X.w) X.A (comprehension (.ListComp elt [⟨tg, iter, ifs, 0⟩] scope pos) scope X.env pos' (newList []) false (eval iter X.env) use) Qf X.xe s := by
  obtain ⟨p, hp1, hpn⟩ := hc
  have hfree : ∀ y ∈ scope.names, y.2 = .free → ∃ c, X.env.cells.lookup y.1 = some c := fun y hy e => (ok.free y hy e).elim (fun k => I.ok.has _ (.inl k)) fun k => I.ok.has _ (.inr k)
  refine wpAny_comprehension_free (use := use) rfl hs (closure_ok hfree) ok.kind (fun y hy e => by rw [ok.uniq y hy, e]) (thn (hi.run pins s σ H _ I h) fun xv s1 hx => thn hx fun itv s2 h2 => ?_)
  obtain ⟨it, fp, tn, J, H1, e, I2, T, st2, f2, q⟩ := h2
  subst e
  refine wpAny_newObj_type (newEnv_comp ?_) (by show 0 ≤ sizeLine; decide)
  generalize hD : s2.heap.objs.size = D
  have hDn : H1 D = none := I2.hok.fresh (Nat.le_of_eq hD)
  obtain ⟨W, ⟨m0, w0⟩, turn⟩ := q D hDn
  generalize hs3 : ({ s2 with heap := s2.heap.push { cls := .type "list", data := .seq ([] : List Value).toArray } } : Shared) = s3
  have kp3 : ∀ b o, s2.heap.get? b = some o → s3.heap.get? b = some o := fun b o e => by rw [← hs3]; exact Heap.get?_push_of_some _ e
  have I3 : Inv X pins σ (upd H1 D (.lst [])) s3 := by
    rw [← hs3]
    refine I2.laid (t' := s2.toks) (fun b o e => Heap.get?_push_of_some _ e) (Nat.le_of_eq hD) ⟨Nat.zero_le _, [], 0, .nil, ?_⟩
    rw [← hD]
    exact Heap.get?_push_size _ rfl
  have ltD : ∀ b ∈ fp, b < D := fun b hb => by
    obtain ⟨o, ho, _⟩ := T.obj _ _ st2 b hb
    rw [← hD]
    exact Heap.lt_size ho
  have st3 : tn 0 s3.heap := T.keep _ _ _ st2 fun b _ o e => kp3 _ _ e
  have lt3 : ∀ b ∈ fp, b < s3.heap.objs.size := fun b hb => by
    obtain ⟨o, ho, _⟩ := T.obj _ _ st3 b hb
    exact Heap.lt_size ho
  have n3 : ∀ b ∈ fp, (upd H1 D (.lst [])) b = none := fun b hb => by
    rw [upd_ne (Nat.ne_of_lt (ltD b hb))]
    exact (f2 b hb).1
  have f3 : ∀ b ∈ fp, FpOk X pins (upd H1 D (.lst [])) b := fun b hb => ⟨n3 b hb, (f2 b hb).2⟩
  have pin3 := I3.pin p (List.mem_append_left _ hpn)
  have pne : ∀ b ∈ fp, p.1 ≠ b := fun b hb => (f2 b hb).2.2.2.2.2 p (List.mem_append_left _ hpn)
  have I4 := block_start I3 ok hN (fp := fp) fun b hb => ⟨f3 b hb, lt3 b hb⟩
  generalize hH3 : upd H1 D (.lst []) = H3 at *
  have pg := hg s3 H3 s3.heap.objs.size (cellsFrom (s3.heap.objs.size + 1) scope.names (cloFrom X.env.cells scope.names [])) fp p hp1
  have pt := ht s3 H3 s3.heap.objs.size (cellsFrom (s3.heap.objs.size + 1) scope.names (cloFrom X.env.cells scope.names [])) fp p hp1
  have pe := he s3 H3 s3.heap.objs.size (cellsFrom (s3.heap.objs.size + 1) scope.names (cloFrom X.env.cells scope.names [])) fp p hp1
  show codeAny _ _ (.compStart (.ListComp elt [⟨tg, iter, ifs, 0⟩] scope pos) 0 (.ref it) (.ref D) (compEnvC scope (cellsFrom (s3.heap.objs.size + 1) scope.names (cloFrom X.env.cells scope.names [])) s3.heap.objs.size X.env)) (compPost (model X.prog X.w) X.A X.xe use Qf (.ref D) s3.heap.objs.size) { s3 with heap := pushCells (s3.heap.push { cls := .type "dict", data := .dict #[] }) scope.names }
  generalize hce : compEnvC scope (cellsFrom (s3.heap.objs.size + 1) scope.names (cloFrom X.env.cells scope.names [])) s3.heap.objs.size X.env = ce at I4 pg pt pe ⊢
  have cL : ce.locals = s3.heap.objs.size := by subst hce; rfl
  generalize hs4 : ({ s3 with heap := pushCells (s3.heap.push { cls := .type "dict", data := .dict #[] }) scope.names } : Shared) = s4 at I4 ⊢
  have kp4 : ∀ b o, s3.heap.get? b = some o → s4.heap.get? b = some o := fun b o e => by rw [← hs4]; exact pushCells_keeps _ _ _ _ (Heap.get?_push_of_some _ e)
  have st4 : tn 0 s4.heap := T.keep _ _ _ st3 fun b _ o e => kp4 _ _ e
  have B4 : Inv (blkH X s3 H3 scope ce fp p) [] (wipe σ (own.map (·.2))) H3 s4 := to_blkH I4 ⟨kp4 _ _ pin3.1, pin3.2.1, by
    rw [cL]
    exact Nat.ne_of_lt (Heap.lt_size pin3.1), fun z => (List.mem_cons.mp (I3.stkSub _ z)).elim pin3.2.2.1 pin3.2.2.2.1, pin3.2.2.2.2⟩
  have hotB : HotC (blkH X s3 H3 scope ce fp p) := ⟨p, hp1, List.mem_singleton.mpr rfl⟩
  have stat : ∀ {σ' : L2.St} {H' : Hp} {s' : Shared}, Inv (blkH X s3 H3 scope ce fp p) [] σ' H' s' → (∀ b ∈ fp, H' b = none) → ∀ b ∈ fp, FpOk (blkH X s3 H3 scope ce fp p) [] H' b := fun {σ' H' s'} I' hn b hb =>
    have mem : b ∈ (blkH X s3 H3 scope ce fp p).ex := hb
    ⟨hn b hb, (I'.ok.exf b mem).1, I'.ok.exfs b mem, .inl mem, fun x c e => (I'.ok.exf b mem).2 x c e, fun q hq => by
      have : q = p := by simpa using hq
      rw [this]
      exact pne b hb⟩
  have loop : codeAny (model X.prog X.w) X.A (.compLoop (.ListComp elt [⟨tg, iter, ifs, 0⟩] scope pos) 0 (.ref it) (.ref D) ce) (compPost (model X.prog X.w) X.A X.xe use Qf (.ref D) s3.heap.objs.size) s4 := by
    refine compLoop_any (fun n s' => ∃ i H', Inv (blkH X s3 H3 scope ce fp p) [] (wipe σ (own.map (·.2))) H' s' ∧ tn i s'.heap ∧ (∀ b ∈ fp, H' b = none) ∧ W i n H') ?_ m0 ⟨0, H3, B4, st4, n3, w0⟩
    rintro n s5 ⟨i, H5, I5, st5, n5, w5⟩
    rcases turn i n H5 w5 with ⟨stop, qq⟩ | ⟨go, Nx, hNx, step⟩
    · have td := T.done (blkH X s3 H3 scope ce fp p) rfl rfl rfl hotB i [] s5 _ H5 (fun _ _ => False) I5 (stat I5 n5) st5 stop
      refine thnF td fun r s6 ⟨hr, I6⟩ => ?_
      subst hr
      have I7 : Inv X pins σ H5 s6 := I3.call' (ch := fp) I6.os I6.base I6.hok I6.bare fun b hb => by
        have z := f3 b hb
        exact ⟨z.2.2.2.1, z.2.1, z.2.2.2.2.1, z.2.2.2.2.2⟩
      have nC : H5 s3.heap.objs.size = none := by
        have z : H5 ce.locals = none := I6.free
        rw [cL] at z
        exact z
      obtain ⟨m, hn, _⟩ := I6.loc
      have hn : Heap.Ns _ ce.locals m := hn
      rw [cL] at hn
      exact hRR D s3.heap.objs.size _ m H5 I7 qq hn (I3.fpOk (Nat.le_refl _) nC)
    · refine thnF (T.item (blkH X s3 H3 scope ce fp p) rfl rfl rfl hotB i [] s5 _ H5 (fun _ _ => False) I5 (stat I5 n5) st5 go) fun r s6 ⟨u, hr, h6⟩ => ?_
      subst hr
      refine thnF h6 fun _ s7 ⟨y, H7, I7, ru, y7, st7, n7⟩ => ?_
      have B7 := I7.pinned (fp := fp) (stat I7 n7) (T.obj _ _ st7)
      refine thnF (pg.run _ s7 _ H7 y u _ B7 ru (step y H7 y7)) fun _ s8 ⟨σ8, H8, I8, hw8, q8⟩ => ?_
      refine thnF (pt.run _ s8 σ8 H8 _ I8 q8) fun b s9 ⟨H9, I9, q9⟩ => ?_
      have fin : ∀ {s' : Shared} {H' : Hp}, Inv (blkH X s3 H3 scope ce fp p) ([] ++ pinsAt fp s7.heap) σ8 H' s' → Nx H' → ∃ m, m < n ∧ ∃ i H', Inv (blkH X s3 H3 scope ce fp p) [] (wipe σ (own.map (·.2))) H' s' ∧ tn i s'.heap ∧ (∀ b ∈ fp, H' b = none) ∧ W i m H' := fun {s' H'} I' nx => by
        obtain ⟨m', hm, w'⟩ := hNx H' nx
        have pin' : ∀ b ∈ fp, ∀ o, s7.heap.get? b = some o → s'.heap.get? b = some o ∧ H' b = none := fun b hb o e => by
          have z := I'.pin (b, o) (List.mem_append_right _ (List.mem_append_right _ (mem_pinsAt hb e)))
          exact ⟨z.1, z.2.1⟩
        refine ⟨m', hm, i + 1, H', (I'.unpinned (pins := [])).weak (by rw [← hw8, wipe_length]) (fun j v e => ?_), T.keep _ _ _ st7 fun b hb o e => (pin' b hb o e).1, fun b hb => ?_, w'⟩
        · rw [← hw8] at e
          exact (wipe_some e).1
        · obtain ⟨o, e, _⟩ := T.obj _ _ st7 b hb
          exact (pin' b hb o e).2
      cases b with
      | false =>
        simp only [Bool.false_eq_true, if_false] at q9 ⊢
        exact fin I9 q9
      | true =>
        simp only [if_true] at q9 ⊢
        refine thnF (pe.run _ s9 σ8 H9 _ I9 q9) fun z s10 ⟨yv, H10, I10, r10, acc, hD10, hz10, nx⟩ => ?_
        exact app_ok (X := blkH X s3 H3 scope ce fp p) I10 hD10 hz10 r10 fun s11 I11 => fin I11 nx
  exact codeAny_compStart_list loop (T.self X.A 0 _ _ _ st4 loop)
/-- as a value -/
theorem pe_lcHI {elt tg iter : Expr} {ifs : List Expr} {scope : Scope} {own : List (Str × Nat)} {pos : Pos} {wi : TI} {g : TG} {tt : TT} {te : TE} (hc : HotC X) (hN : X.N.Nodup) (hi : PIH X tg iter wi) (ok : BlkOk X.N X.env.scope scope own)
    (hg : ∀ (s : Shared) (H : Hp) (C : Addr) (cl : List (Str × Addr)) (fp : List Addr) (p : Addr × Obj), Hot1 X.A p → PG (blkH X s H scope (compEnvC scope cl C X.env) fp p) tg g)
    (ht : ∀ (s : Shared) (H : Hp) (C : Addr) (cl : List (Str × Addr)) (fp : List Addr) (p : Addr × Obj), Hot1 X.A p → PTs (blkH X s H scope (compEnvC scope cl C X.env) fp p) ifs tt)
    (he : ∀ (s : Shared) (H : Hp) (C : Addr) (cl : List (Str × Addr)) (fp : List Addr) (p : Addr × Obj), Hot1 X.A p → PE (blkH X s H scope (compEnvC scope cl C X.env) fp p) elt te)
    (hs : ∀ x, foldedSetIterable iter X.env x = pure x := by intro _; rfl) :
    PE X (.ListComp elt [⟨tg, iter, ifs, 0⟩] scope pos) (tLc wi g tt te (own.map (·.2))) := by
  refine ⟨fun pins s σ H Q I h => ?_⟩
  rw [eval_ListComp]
  refine lc_hotI hc hN I hi ok hg ht he hs h fun D C s' m H' I' q hn f => ⟨m, hn, fun h'' sb => ?_⟩
  obtain ⟨f0, f1, f2, f3, f4, f5⟩ := f
  exact ⟨.ref D, H', I'.turned (t' := s'.toks) (fun b o hb e => (sb.2 b hb).trans e) f0 f1 f3 f4 f5, rfl, q⟩
/-- name = [..] on one line, the name a local -/
theorem ps_setLcHI {i : Nat} {y : Str} {py : Pos} {elt tg iter : Expr} {ifs : List Expr} {scope : Scope} {own : List (Str × Nat)} {pos spos : Pos} {wi : TI} {g : TG} {tt : TT} {te : TE} (hc : HotC X) (hN : X.N.Nodup) (hy : X.N[i]? = some y) (hyl : X.env.scope.names.lookup y = some .local)
    (hsw : swapsWith (.ListComp elt [⟨tg, iter, ifs, 0⟩] scope pos) (some (.Name y py)) spos.line X.env = pure true) (hi : PIH X tg iter wi) (ok : BlkOk X.N X.env.scope scope own)
    (hg : ∀ (s : Shared) (H : Hp) (C : Addr) (cl : List (Str × Addr)) (fp : List Addr) (p : Addr × Obj), Hot1 X.A p → PG (blkH X s H scope (compEnvC scope cl C X.env) fp p) tg g)
    (ht : ∀ (s : Shared) (H : Hp) (C : Addr) (cl : List (Str × Addr)) (fp : List Addr) (p : Addr × Obj), Hot1 X.A p → PTs (blkH X s H scope (compEnvC scope cl C X.env) fp p) ifs tt)
    (he : ∀ (s : Shared) (H : Hp) (C : Addr) (cl : List (Str × Addr)) (fp : List Addr) (p : Addr × Obj), Hot1 X.A p → PE (blkH X s H scope (compEnvC scope cl C X.env) fp p) elt te)
    (hs : ∀ x, foldedSetIterable iter X.env x = pure x := by intro _; rfl) :
    PS X (.Assign [.Name y py] (.ListComp elt [⟨tg, iter, ifs, 0⟩] scope pos) spos) (tAsg (tLc wi g tt te (own.map (·.2))) (gName i)) := by
  refine ⟨fun pins s σ H D I h => ?_⟩
  rw [exec_Assign_Name_used _ _ _ _ hsw]
  refine wpAny_bind (wpAny_standAt (wpAny_bind ?_))
  have h : tLc wi g tt te (own.map (·.2)) σ H (fun x H1 => gName i x σ H1 D.nx) := h
  show wpAny _ X.A (do let _ ← comprehension (.ListComp elt [⟨tg, iter, ifs, 0⟩] scope pos) scope X.env (firstIterPos [⟨tg, iter, ifs, 0⟩] pos) (newList []) false (eval iter X.env) (some (assign (.Name y py) X.env))) _ _ s
  refine wpAny_bind (thn (lc_hotI (Qf := fun _ s' => SP X pins D .next s') hc hN I hi ok hg ht he hs h fun L C s' m H' I' q hn f => ?_) fun _ s' hq => wpAny_pure (wpAny_pure hq))
  show wpAny _ _ (assign (.Name y py) X.env (.ref L)) _ _ _
  refine wpAny_assign_Name (store_ok2 (v := V.ref L) I' hN hy (.inl hyl) rfl (fun s2 I2 ⟨a, sb, ha⟩ => ?_) (.inr hyl))
  obtain ⟨f0, f1, f2, f3, f4, f5⟩ := f
  have haC : C ≠ a := ha.elim (fun z => by rw [z]; exact f1) fun z => fun e => f4 y a z e.symm
  exact ⟨m, hn.sameBut sb haC, fun h3 sb3 => ⟨_, H', I2.turned (t' := s2.toks) (fun b o hb e => (sb3.2 b hb).trans e) f0 f1 f3 f4 f5, q⟩⟩
end
end UPH

set_option Elab.async false
set_option linter.all false
set_option maxRecDepth 100000
set_option maxHeartbeats 4000000
/-! lists, tuples walked while an exception is handled -/
namespace UPH
open PySem PySem.Spec PyProof.Rows L2 HotX L2H
theorem turn_lstH {P : Program} {w : World} {K : PySem.W.Frag} {tg : Expr} (a it : Addr) : TurnH P w K tg (Itl K a) [it] it (fun i h => h.IsListIter it a i) where
  mem := List.mem_singleton.mpr rfl
  obj := fun i h z b hb => by
    rw [List.mem_singleton.mp hb]
    obtain ⟨ob, e1, _, e3⟩ := z
    exact ⟨ob, e1, fun v y => by rw [e3] at y; cases y⟩
  keep := fun i h h' z kp => z.at fun ob e => kp it (List.mem_singleton.mpr rfl) ob e
  item := by
    intro X e1 e2 e3 hot i pins s σ H E J hf z go
    subst e1 e2 e3
    obtain ⟨f0, f1, f2, f3, f4, f5⟩ := hf it (List.mem_singleton.mpr rfl)
    obtain ⟨ys, y, hys, hy⟩ := go
    obtain ⟨vals, rel, pl, _⟩ := J.list hys
    obtain ⟨u, hu, ru⟩ := rel.get hy
    refine wpAny_pyNext_list_item z pl.isList (x := u) (by simpa using hu) fun h' z' sb => ?_
    obtain ⟨ob, g1, g2, g3⟩ := id z'
    refine ⟨u, rfl, go_of (s := { s with heap := h' }) g1 g2 g3 (by decide) ⟨y, H, J.turned (t' := s.toks) (fun b o hb e => (sb.2 b hb).trans e) f0 f1 f3 f4 f5, ru, ⟨rfl, fun zs hz => ?_⟩, z', fun b hb => (hf b hb).1⟩⟩
    rw [J.list_inj hz hys]
    exact hy
  done := by
    intro X e1 e2 e3 hot i pins s σ H E J hf z stop
    subst e1 e2 e3
    obtain ⟨f0, f1, f2, f3, f4, f5⟩ := hf it (List.mem_singleton.mpr rfl)
    obtain ⟨ys, hys, hlen⟩ := stop
    obtain ⟨vals, rel, pl, _⟩ := J.list hys
    obtain ⟨p, hp1, hpn⟩ := hot
    obtain ⟨hh, vs1, d1, c1⟩ := hp1
    have pin := J.pin p (List.mem_append_left _ hpn)
    have len := rel.length
    exact next_list_end_hot ⟨hh, p.2, vs1, pin.1, d1, c1⟩ (f5 p (List.mem_append_left _ hpn)) z pl.isList (by simp; omega) fun h' eb => ⟨rfl, J.turned (t' := s.toks) (fun b o hb e => eb b o hb e) f0 f1 f3 f4 f5⟩
  self := fun _ _ _ _ _ z h => wpAny_pyIter_listiter z h
theorem turn_tupH {P : Program} {w : World} {K : PySem.W.Frag} {tg : Expr} (a it : Addr) : TurnH P w K tg (Itt K a) [it] it (fun i h => h.IsTupleIter it a i) where
  mem := List.mem_singleton.mpr rfl
  obj := fun i h z b hb => by
    rw [List.mem_singleton.mp hb]
    obtain ⟨ob, e1, _, e3⟩ := z
    exact ⟨ob, e1, fun v y => by rw [e3] at y; cases y⟩
  keep := fun i h h' z kp => z.at fun ob e => kp it (List.mem_singleton.mpr rfl) ob e
  item := by
    intro X e1 e2 e3 hot i pins s σ H E J hf z go
    subst e1 e2 e3
    obtain ⟨f0, f1, f2, f3, f4, f5⟩ := hf it (List.mem_singleton.mpr rfl)
    obtain ⟨ys, y, hys, hy⟩ := go
    obtain ⟨vals, rel, pl, _⟩ := J.tuple hys
    obtain ⟨u, hu, ru⟩ := rel.get hy
    refine wpAny_pyNext_tuple_item z (show s.heap.IsTuple a vals.toArray from pl) (x := u) (by simpa using hu) fun h' z' sb => ?_
    obtain ⟨ob, g1, g2, g3⟩ := id z'
    refine ⟨u, rfl, go_of (s := { s with heap := h' }) g1 g2 g3 (by decide) ⟨y, H, J.turned (t' := s.toks) (fun b o hb e => (sb.2 b hb).trans e) f0 f1 f3 f4 f5, ru, ⟨rfl, fun zs hz => ?_⟩, z', fun b hb => (hf b hb).1⟩⟩
    rw [J.tuple_inj hz hys]
    exact hy
  done := by
    intro X e1 e2 e3 hot i pins s σ H E J hf z stop
    subst e1 e2 e3
    obtain ⟨f0, f1, f2, f3, f4, f5⟩ := hf it (List.mem_singleton.mpr rfl)
    obtain ⟨ys, hys, hlen⟩ := stop
    obtain ⟨vals, rel, pl, _⟩ := J.tuple hys
    obtain ⟨p, hp1, hpn⟩ := hot
    obtain ⟨hh, vs1, d1, c1⟩ := hp1
    have pin := J.pin p (List.mem_append_left _ hpn)
    have len := rel.length
    exact next_tuple_end_hot ⟨hh, p.2, vs1, pin.1, d1, c1⟩ (f5 p (List.mem_append_left _ hpn)) z (show IsTup s.heap a vals.toArray from pl) (by simp; omega) fun h' eb => ⟨rfl, J.turned (t' := s.toks) (fun b o hb e => eb b o hb e) f0 f1 f3 f4 f5⟩
  self := fun _ _ _ _ _ z h => wpAny_pyIter_tupleiter z h
section
variable {X : Cx} {tg : Expr}
theorem pi_lstH {l : Expr} {tl : TE} (hl : PE X l tl) : PIH X tg l (iList X.K tl) := by
  refine ⟨fun pins s σ H R J h => thn (hl.run pins s σ H _ J h) fun v s1 ⟨x, H1, J1, r1, q1⟩ => ?_⟩
  obtain ⟨a, rfl, ⟨ys, hys⟩, q⟩ := q1
  cases r1
  obtain ⟨vals, rel, pl, _⟩ := J1.list hys
  refine wpAny_pyIter_list pl.isList ⟨s1.heap.objs.size, [s1.heap.objs.size], _, _, H1, rfl, J1.kept (t' := s1.toks) fun b o e => Heap.get?_push_of_some _ e, turn_lstH a _, ⟨_, Heap.get?_push_size _ rfl, rfl, rfl⟩, fun b hb => ?_, q⟩
  rw [List.mem_singleton.mp hb]
  exact J1.fpOk (Nat.le_refl _) (J1.hok.fresh (Nat.le_refl _))
theorem pi_tupH {l : Expr} {tl : TE} (hl : PE X l tl) : PIH X tg l (iTup X.K tl) := by
  refine ⟨fun pins s σ H R J h => thn (hl.run pins s σ H _ J h) fun v s1 ⟨x, H1, J1, r1, q1⟩ => ?_⟩
  obtain ⟨a, rfl, ⟨ys, hys⟩, q⟩ := q1
  cases r1
  obtain ⟨vals, rel, pl, _⟩ := J1.tuple hys
  refine wpAny_pyIter_tuple (show s1.heap.IsTuple a vals.toArray from pl) ⟨s1.heap.objs.size, [s1.heap.objs.size], _, _, H1, rfl, J1.kept (t' := s1.toks) fun b o e => Heap.get?_push_of_some _ e, turn_tupH a _, ⟨_, Heap.get?_push_size _ rfl, rfl, rfl⟩, fun b hb => ?_, q⟩
  rw [List.mem_singleton.mp hb]
  exact J1.fpOk (Nat.le_refl _) (J1.hok.fresh (Nat.le_refl _))
end
end UPH

set_option Elab.async false
set_option linter.all false
set_option maxRecDepth 100000
set_option maxHeartbeats 4000000
/-! texts walked while an exception is handled -/
namespace UPH
open PySem PySem.Spec PyProof.Rows L2 HotX L2H
section
variable {prog : Program} {w : World} {A : Around} {E : Value → Shared → Prop} {s : Shared}
/-- behind the last letter: the StopIteration takes the handled exception as its context -/
theorem stop_after {α : Type} {it x1 : Addr} {a : Nat} {u : Value} {o1 : Obj} {vs1 : Array Value} {Q : Option Value → Shared → Prop} (hne : x1 ≠ it) (hh : A.handled = some (.ref x1)) (h1 : s.heap.get? x1 = some o1) (d1 : o1.data = .fields vs1) (c1 : vs1[2]? = some .none)
    (hQ : ∀ h', Heap.ExtBut it s.heap h' → Q none { s with heap := h' }) :
    wpAny (model prog w) A.in1 (do let e ← newExc (.type "StopIteration") []; (raiseNew e : Sem α)) (fun _ _ => False) (fun e s1 => wpAny (model prog w) A (isInstance e (.type "StopIteration")) (fun b s2 => b = true ∧ Q none s2) E s1) { s with heap := s.heap.update it (Obj.mapFields (·.setIfInBounds a u)) } := by
  have h2 : (s.heap.update it (Obj.mapFields (·.setIfInBounds a u))).get? x1 = some o1 := by
    rw [Heap.get?_update_other _ _ hne.symm]
    exact h1
  show wpAny _ _ (Builtin.SmallTypes.stopIteration : Sem α) _ _ _
  refine stop_hot (A := A.in1) (B := A) (E := E) (Q := Q) ⟨hh, o1, vs1, h2, d1, c1⟩ fun h' eb => hQ h' fun b o hb e => eb b o ?_
  rw [Heap.get?_update_other _ _ (Ne.symm hb)]
  exact e
theorem next_ascii_hot {it x1 : Addr} {x : Str} {t : Tok} {i : Nat} {Q : Option Value → Shared → Prop} (hot : HotAt A x1 s.heap) (hne : x1 ≠ it) (z : s.heap.IsStrIter it "str_ascii_iterator" x t i) (hx : x.cps[i]? = none)
    (hQ : ∀ h', Heap.ExtBut it s.heap h' → Q none { s with heap := h' }) : wpAny (model prog w) A (pyNext (.ref it)) Q E s := by
  obtain ⟨hh, o1, vs1, h1, d1, c1⟩ := hot
  obtain ⟨ob, g1, g2, g3⟩ := id z
  unfold pyNext
  refine wpAny_bind (wpAny_attempt (wpAny_callSpecial?_slot (name := Str.ofString "__next__") z.typeIs PySem.F.slot_str_ascii_iterator_next
    (wpAny_call_entry PySem.F.slot_str_ascii_iterator_next z.typeIs PySem.F.entry_str_ascii_iterator_next ?_ (PySem.F.args_str_ascii_iterator_next_1 _))))
  show wpAny _ _ (field (.ref it) 0 >>= _) _ _ s
  refine wpAny_bind (wpAny_field g1 g3 (x := .str x t) rfl ?_)
  show wpAny _ _ (field (.ref it) 1 >>= _) _ _ s
  refine wpAny_bind (wpAny_field g1 g3 (x := .int i 0) rfl ?_)
  simp only [Int.toNat_natCast, hx]
  refine wpAny_bind (wpAny_rule (wpAny_bind (wpAny_setField g1 g3 (by simp) (wpAny_bind (wpAny_letGo ?_)))))
  refine wpAny_mono (stop_after (E := E) hne hh h1 d1 c1 hQ) (fun _ _ y => False.elim y) (fun e s1 y => ?_)
  refine wpAny_bind (wpAny_mono y (fun b s2 ⟨e1, q⟩ => ?_) fun _ _ k => k)
  subst e1
  exact wpAny_pure q
theorem next_wide_hot {it x1 : Addr} {x : Str} {t : Tok} {i : Nat} {Q : Option Value → Shared → Prop} (hot : HotAt A x1 s.heap) (hne : x1 ≠ it) (z : s.heap.IsStrIter it "str_iterator" x t i) (hx : x.cps[i]? = none)
    (hQ : ∀ h', Heap.ExtBut it s.heap h' → Q none { s with heap := h' }) : wpAny (model prog w) A (pyNext (.ref it)) Q E s := by
  obtain ⟨hh, o1, vs1, h1, d1, c1⟩ := hot
  obtain ⟨ob, g1, g2, g3⟩ := id z
  unfold pyNext
  refine wpAny_bind (wpAny_attempt (wpAny_callSpecial?_slot (name := Str.ofString "__next__") z.typeIs PySem.F.slot_str_iterator_next
    (wpAny_call_entry PySem.F.slot_str_iterator_next z.typeIs PySem.F.entry_str_iterator_next ?_ (PySem.F.args_str_iterator_next_1 _))))
  show wpAny _ _ (field (.ref it) 0 >>= _) _ _ s
  refine wpAny_bind (wpAny_field g1 g3 (x := .str x t) rfl ?_)
  show wpAny _ _ (field (.ref it) 1 >>= _) _ _ s
  refine wpAny_bind (wpAny_field g1 g3 (x := .int i 0) rfl ?_)
  simp only [Int.toNat_natCast, hx]
  refine wpAny_bind (wpAny_rule (wpAny_bind (wpAny_setField g1 g3 (by simp) (wpAny_bind (wpAny_letGo ?_)))))
  refine wpAny_mono (stop_after (E := E) hne hh h1 d1 c1 hQ) (fun _ _ y => False.elim y) (fun e s1 y => ?_)
  refine wpAny_bind (wpAny_mono y (fun b s2 ⟨e1, q⟩ => ?_) fun _ _ k => k)
  subst e1
  exact wpAny_pure q
end
theorem turn_txtH {P : Program} {w : World} {K : PySem.W.Frag} {tg : Expr} (it : Addr) (x : Str) (t : Tok) (ty : String) (hty : ty = "str_ascii_iterator" ∨ ty = "str_iterator") :
    TurnH P w K tg (Its x) [it] it (fun i h => h.IsStrIter it ty x t i) where
  mem := List.mem_singleton.mpr rfl
  obj := fun i h z b hb => by
    rw [List.mem_singleton.mp hb]
    obtain ⟨ob, e1, _, e3⟩ := z
    exact ⟨ob, e1, fun v y => by rw [e3] at y; cases y⟩
  keep := fun i h h' z kp => by
    obtain ⟨ob, e1, r⟩ := z
    exact ⟨ob, kp it (List.mem_singleton.mpr rfl) ob e1, r⟩
  item := by
    intro X e1 e2 e3 hot i pins s σ H E J hf z go
    subst e1 e2 e3
    have go : i < x.cps.size := go
    obtain ⟨f0, f1, f2, f3, f4, f5⟩ := hf it (List.mem_singleton.mpr rfl)
    have fin : ∀ (h' : Heap), h'.IsStrIter it ty x t (i + 1) → Heap.SameBut it s.heap h' → ∃ u, (some (Value.str ⟨#[x.cps[i]]⟩ s.toks) : Option Value) = some u ∧
        wpAny (model X.prog X.w) X.A (letOwnedTupleGo tg (.ref it) u) (fun _ s2 => ∃ y H', Inv X pins σ H' s2 ∧ RelV y u ∧ (Its x).yld i H y H' ∧ s2.heap.IsStrIter it ty x t (i + 1) ∧ ∀ b ∈ [it], H' b = none) E { s with heap := h', toks := s.toks + 1 } := fun h' z' sb => by
      obtain ⟨ob, g1, g2, g3⟩ := id z'
      have no : ["enumerate", "zip", "dict_itemiterator", "dict_reverseitemiterator", "odict_iterator", "itertools.zip_longest", "itertools.pairwise"].contains ty = false := by rcases hty with e | e <;> (rw [e]; decide)
      exact ⟨_, rfl, go_of (s := { s with heap := h', toks := s.toks + 1 }) g1 g2 g3 no ⟨.str ⟨#[x.cps[i]]⟩, H, J.turned (fun b o hb e => (sb.2 b hb).trans e) f0 f1 f3 f4 f5, ⟨s.toks, rfl⟩, ⟨rfl, _, Array.getElem?_eq_getElem go, rfl⟩, z', fun b hb => (hf b hb).1⟩⟩
    rcases hty with e | e
    · subst e
      exact wpAny_pyNext_ascii_item z (Array.getElem?_eq_getElem go) fun h' z' sb => fin h' z' sb
    · subst e
      exact wpAny_pyNext_wide_item z (Array.getElem?_eq_getElem go) fun h' z' sb => fin h' z' sb
  done := by
    intro X e1 e2 e3 hot i pins s σ H E J hf z stop
    subst e1 e2 e3
    obtain ⟨f0, f1, f2, f3, f4, f5⟩ := hf it (List.mem_singleton.mpr rfl)
    obtain ⟨p, hp1, hpn⟩ := hot
    obtain ⟨hh, vs1, d1, c1⟩ := hp1
    have pin := J.pin p (List.mem_append_left _ hpn)
    have ne := f5 p (List.mem_append_left _ hpn)
    have none : x.cps[i]? = none := Array.getElem?_eq_none stop
    rcases hty with e | e
    · subst e
      exact next_ascii_hot ⟨hh, p.2, vs1, pin.1, d1, c1⟩ ne z none fun h' eb => ⟨rfl, J.turned (t' := s.toks) (fun b o hb e => eb b o hb e) f0 f1 f3 f4 f5⟩
    · subst e
      exact next_wide_hot ⟨hh, p.2, vs1, pin.1, d1, c1⟩ ne z none fun h' eb => ⟨rfl, J.turned (t' := s.toks) (fun b o hb e => eb b o hb e) f0 f1 f3 f4 f5⟩
  self := fun A i s Q E z h => by
    rcases hty with e | e
    · subst e
      exact wpAny_pyIter_striter_ascii z h
    · subst e
      exact wpAny_pyIter_striter_wide z h
theorem pi_txtH {X : Cx} {tg e : Expr} {te : TE} (he : PE X e te) : PIH X tg e (iStr te) := by
  refine ⟨fun pins s σ H R J h => thn (he.run pins s σ H _ J h) fun v s1 ⟨y, H1, J1, r1, x, ex, q⟩ => ?_⟩
  subst ex
  obtain ⟨t, rfl⟩ := r1
  have got : ∀ (ty : String) (ob : Obj), (ty = "str_ascii_iterator" ∨ ty = "str_iterator") → ob.isFreed = false → (∀ h : Heap, h.get? s1.heap.objs.size = some ob → h.IsStrIter s1.heap.objs.size ty x t 0) → PIEH X pins σ tg R (.ref s1.heap.objs.size) { s1 with heap := s1.heap.push ob } := fun ty ob hty nf hit =>
    ⟨s1.heap.objs.size, [s1.heap.objs.size], _, _, H1, rfl, J1.kept (t' := s1.toks) fun b o e => Heap.get?_push_of_some _ e, turn_txtH _ x t ty hty, hit _ (Heap.get?_push_size _ nf), fun b hb => by
      rw [List.mem_singleton.mp hb]
      exact J1.fpOk (Nat.le_refl _) (J1.hok.fresh (Nat.le_refl _)), q⟩
  cases ha : x.cps.all (· < 128)
  · exact wpAny_pyIter_wide ha (got "str_iterator" _ (.inr rfl) rfl fun h e => ⟨_, e, rfl, rfl⟩)
  · exact wpAny_pyIter_ascii ha (got "str_ascii_iterator" _ (.inl rfl) rfl fun h e => ⟨_, e, rfl, rfl⟩)
end UPH

set_option Elab.async false
set_option linter.all false
set_option maxRecDepth 100000
set_option maxHeartbeats 4000000
/-! all([..]), any([..]) while an exception is handled -/
namespace UPH
open PySem PySem.Spec PyProof.Rows L2 HotX L2H
theorem walks_lstH {prog : Program} {w : World} {A : Around} {x1 : Addr} {o1 : Obj} {vs1 : Array Value} (hh : A.handled = some (.ref x1)) (d1 : o1.data = .fields vs1) (c1 : vs1[2]? = some .none) (it ax : Addr) (ne : ax ≠ it) (n1 : x1 ≠ it) (vals : Array Value) :
    Walks prog w A it [it, ax, x1] [it] vals.size (fun i v => vals[i]? = some v) (fun i h => h.IsListIter it ax i ∧ h.IsList ax vals ∧ h.get? x1 = some o1) where
  sub := fun b hb => by
    rw [List.mem_singleton.mp hb]
    exact List.mem_cons_self ..
  frame := fun _ _ _ z kp => ⟨z.1.at fun o e => kp it (by simp) o e, z.2.1.at fun o e => kp ax (by simp) o e, kp x1 (by simp) _ z.2.2⟩
  item := fun i s Q E hi z hQ => by
    refine wpAny_pyNext_list_item z.1 z.2.1 (x := vals[i]) (by simp [hi]) fun h' z' sb => ?_
    refine hQ _ h' s.toks (by simp [hi]) ⟨z', z.2.1.extBut sb.extBut ne, (sb.2 _ n1).trans z.2.2⟩ fun b o hb e => ?_
    exact sb.extBut b o (fun h => hb (by simp [h])) e
  done := fun s Q E z hQ => next_list_end_hot ⟨hh, o1, vs1, z.2.2, d1, c1⟩ n1 z.1 z.2.1 (by simp) fun h' eb => hQ h' s.toks fun b o hb e => eb b o (fun h => hb (by simp [h])) e
  self := fun _ _ _ _ z hQ => wpAny_pyIter_listiter z.1 hQ
section
variable {X : Cx}
theorem cr_allH (hot : HotC X) : CallR X (.builtin "all") (rAll X.K) := by
  intro pins s σ H vs us Q J r h
  obtain ⟨a, bs, rfl, hs, q⟩ := h
  obtain ⟨vals, rel, pl, _⟩ := J.list hs
  obtain ⟨p, hp1, hpn⟩ := hot
  obtain ⟨hh, vs1, d1, c1⟩ := hp1
  have pin := J.pin p (List.mem_append_left _ hpn)
  rw [Vals.ref1 r]
  have bl := rel.bls
  refine call_all_walk (iter_any pl.isList fun s₂ e2 st hne => ?_)
  subst e2
  have n1 : p.1 ≠ s.heap.objs.size := Nat.ne_of_lt (Heap.lt_size pin.1)
  refine ⟨_, _, _, _, _, _, _, rfl, walks_lstH (A := X.A.in1) hh d1 c1 _ a hne n1 vals.toArray, ⟨st.1, st.2, Heap.get?_push_of_some _ pin.1⟩, truth_bools bl, fun h' tk hk => ?_⟩
  refine ⟨.bl _, H, J.kept fun b o eo => hk b o (fun m => ?_) (Heap.get?_push_of_some _ eo), ?_, q⟩
  · rw [List.mem_singleton.mp m] at eo
    exact absurd (Heap.lt_size eo) (Nat.lt_irrefl _)
  · show Value.bool _ = Value.bool _
    rw [← L2.all_range, bl, List.size_toArray, List.length_map]
theorem cr_anyH (hot : HotC X) : CallR X (.builtin "any") (rAny X.K) := by
  intro pins s σ H vs us Q J r h
  obtain ⟨a, bs, rfl, hs, q⟩ := h
  obtain ⟨vals, rel, pl, _⟩ := J.list hs
  obtain ⟨p, hp1, hpn⟩ := hot
  obtain ⟨hh, vs1, d1, c1⟩ := hp1
  have pin := J.pin p (List.mem_append_left _ hpn)
  rw [Vals.ref1 r]
  have bl := rel.bls
  refine call_any_walk (iter_any pl.isList fun s₂ e2 st hne => ?_)
  subst e2
  have n1 : p.1 ≠ s.heap.objs.size := Nat.ne_of_lt (Heap.lt_size pin.1)
  refine ⟨_, _, _, _, _, _, _, rfl, walks_lstH (A := X.A.in1) hh d1 c1 _ a hne n1 vals.toArray, ⟨st.1, st.2, Heap.get?_push_of_some _ pin.1⟩, truth_bools bl, fun h' tk hk => ?_⟩
  refine ⟨.bl _, H, J.kept fun b o eo => hk b o (fun m => ?_) (Heap.get?_push_of_some _ eo), ?_, q⟩
  · rw [List.mem_singleton.mp m] at eo
    exact absurd (Heap.lt_size eo) (Nat.lt_irrefl _)
  · show Value.bool _ = Value.bool _
    rw [← L2.any_range, bl, List.size_toArray, List.length_map]
end
end UPH

set_option Elab.async false
set_option linter.all false
set_option maxRecDepth 100000
set_option maxHeartbeats 4000000
/-! sum([..]) while an exception is handled -/
namespace UPH
open PySem PySem.Spec PyProof.Rows L2 HotX L2H
section
variable {X : Cx}
theorem cr_sumH (hot : HotC X) : CallR X (.builtin "sum") (rSum X.K) := by
  intro pins s σ H vs us Q J r h
  obtain ⟨a, ns, rfl, hs, q⟩ := h
  obtain ⟨vals, rel, pl, _⟩ := J.list hs
  obtain ⟨p, hp1, hpn⟩ := hot
  obtain ⟨hh, vs1, d1, c1⟩ := hp1
  have pin := J.pin p (List.mem_append_left _ hpn)
  rw [Vals.ref1 r]
  have hi := rel.ints
  have hl := pl.isList
  obtain ⟨xs, e⟩ := hi.allInts.items
  have hn : numsOf (intItems xs).toList = ns := by rw [← e]; exact hi.numsOf
  rw [nums_intItems] at hn
  rw [e] at hl
  have n1 : p.1 ≠ s.heap.objs.size := Nat.ne_of_lt (Heap.lt_size pin.1)
  refine call_sum_walkG (iter_intList hl fun s₂ e2 st hfp hlI => ?_)
  subst e2
  have pin' := Heap.get?_push_of_some { cls := .type "list_iterator", data := .fields #[.ref a, .int 0 0] } pin.1
  refine ⟨_, _, _, _, _, _, numAt xs, rfl, walks_lstH (A := X.A.in1) hh d1 c1 _ a hlI n1 (intItems xs), ⟨st.1, st.2, pin'⟩, fun b hb => ?_, (fun _ _ => intItems_at), fun h' tk t' hk => ?_⟩
  · rcases List.mem_cons.mp hb with e | hb
    · exact hfp b (by simp [e])
    · rcases List.mem_cons.mp hb with e | hb
      · exact hfp b (by simp [e])
      · rw [List.mem_singleton.mp hb]
        exact Heap.lt_size pin'
  · have sums : preSum (numAt xs) (intItems xs).size = ns.sum := by
      rw [show (intItems xs).size = xs.size by simp [intItems], preSum_eq, List.take_of_length_le (by simp), hn]
    rw [sums]
    refine ⟨.int ns.sum, H, J.kept fun b o eo => hk b o (fun m => ?_) (Heap.get?_push_of_some _ eo), ⟨_, rfl⟩, q⟩
    rw [List.mem_singleton.mp m] at eo
    exact absurd (Heap.lt_size eo) (Nat.lt_irrefl _)
end
end UPH

set_option Elab.async false
set_option linter.all false
set_option maxRecDepth 100000
set_option maxHeartbeats 4000000
/-! zip while an exception is handled: the end of an inner iterator -/
namespace UPH
open PySem PySem.Spec PyProof.Rows L2 HotX L2H
section
variable {prog : Program} {w : World} {A : Around} {E : Value → Shared → Prop} {s : Shared}
/-- a new StopIteration, raised -/
theorem raise_stop {α : Type} {x1 : Addr} {Q : α → Shared → Prop} (hot : HotAt A x1 s.heap) (hE : ∀ h' e, (∀ b o, s.heap.get? b = some o → h'.get? b = some o) → (∃ o, h'.get? e = some o ∧ o.cls = .type "StopIteration") → E (.ref e) { s with heap := h' }) :
    wpAny (model prog w) A (Builtin.SmallTypes.stopIteration : Sem α) Q E s := by
  obtain ⟨hh, o1, vs1, h1, d1, c1⟩ := hot
  show wpAny _ _ (newExc (.type "StopIteration") [] >>= _) _ _ _
  refine wpAny_bind ?_
  simp only [newExc, newTuple]
  refine wpAny_bind (wpAny_newObj_type ?_ (by size_fits))
  refine wpAny_bind (m := firstArgMember _ _) (wpAny_of_eq (a := Value.none) (by first | rfl | (simp only [firstArgMember]; rfl)) ?_)
  refine wpAny_newObj_type ?_ (by size_fits)
  refine raiseNew_hot ⟨hh, o1, vs1, Heap.get?_push_of_some _ (Heap.get?_push_of_some _ h1), d1, c1⟩ (Nat.ne_of_lt (Heap.lt_size (Heap.get?_push_of_some _ h1))) (Heap.get?_push_size _ rfl) rfl (by first | (simp; done) | (simp; omega) | (simp only [Array.size_append]; simp; omega)) ?_
  refine hE _ _ (fun b o e => ?_) ⟨_, Heap.get?_update_self _ (Heap.get?_push_size _ rfl) rfl, rfl⟩
  rw [Heap.get?_update_other _ _ (Nat.ne_of_gt (Heap.lt_size (Heap.get?_push_of_some _ e)))]
  exact Heap.get?_push_of_some _ (Heap.get?_push_of_some _ e)
theorem nextOf_lst_hot {it l x1 : Addr} {i : Nat} {items : Array Value} {Q : Value → Shared → Prop} (hot : HotAt A x1 s.heap) (hne : x1 ≠ it) (z : s.heap.IsListIter it l i) (hl : s.heap.IsList l items) (hx : items[i]? = none)
    (hE : ∀ h' e, Heap.ExtBut it s.heap h' → (∃ o, h'.get? e = some o ∧ o.cls = .type "StopIteration") → E (.ref e) { s with heap := h' }) :
    wpAny (model prog w) A (Builtin.SmallTypes.nextOf (.ref it)) Q E s := by
  obtain ⟨hh, o1, vs1, h1, d1, c1⟩ := hot
  obtain ⟨ob, g1, g2, g3⟩ := id z
  obtain ⟨ol, hol, _, nl, hdl⟩ := hl
  unfold Builtin.SmallTypes.nextOf
  refine wpAny_bind (wpAny_callSpecial?_slot (name := Str.ofString "__next__") z.typeIs slot_listiter_next
    (wpAny_call_entry slot_listiter_next z.typeIs entry_listiter_next ?_ (args_listiter_next _)))
  show wpAny _ _ (field (.ref it) 0 >>= _) _ _ s
  refine wpAny_bind (wpAny_field g1 g3 (x := .ref l) rfl ?_)
  show wpAny _ _ (if (Value.ref l == Value.none) = true then _ else _) _ _ s
  rw [if_neg (show ¬ ((Value.ref l == Value.none) = true) from Bool.false_ne_true)]
  show wpAny _ _ (field (.ref it) 1 >>= _) _ _ s
  refine wpAny_bind (wpAny_field g1 g3 (x := .int i 0) rfl ?_)
  show wpAny _ _ (seqItems? (.ref l) >>= _) _ _ s
  refine wpAny_bind (wpAny_seqItems hol hdl ?_)
  simp only [Int.toNat_natCast, hx]
  refine wpAny_bind (wpAny_rule (wpAny_bind (wpAny_setField g1 g3 (by simp) ?_)))
  have h2 : (s.heap.update it (Obj.mapFields (·.setIfInBounds 0 .none))).get? x1 = some o1 := by
    rw [Heap.get?_update_other _ _ hne.symm]
    exact h1
  refine raise_stop (A := A.in1) ⟨hh, o1, vs1, h2, d1, c1⟩ fun h' e kp st => hE h' e (fun b o hb eb => kp b o ?_) st
  rw [Heap.get?_update_other _ _ (Ne.symm hb)]
  exact eb
end
end UPH

set_option Elab.async false
set_option linter.all false
set_option maxRecDepth 100000
set_option maxHeartbeats 4000000
/-! zip of two lists while an exception is handled -/
namespace UPH
open PySem PySem.Spec PyProof.Rows L2 HotX L2H
section
variable {prog : Program} {w : World} {A : Around} {E : Value → Shared → Prop} {s : Shared}
theorem zip_end_hot {z TI TO i1 i2 l1 l2 x1 : Addr} {k1 k2 : Nat} {xs ys : Array Value} {a b : Value} {Q : Fin → Shared → Prop} (hot : HotAt A x1 s.heap) (nz : x1 ≠ z) (nO : x1 ≠ TO) (n1 : x1 ≠ i1) (n2 : x1 ≠ i2) (D : ZipApart z TI TO i1 i2 l1 l2)
    (hz : IsZip s.heap z TI TO .none) (hTI : IsPair s.heap TI (.ref i1) (.ref i2)) (hTO : IsPair s.heap TO a b)
    (z1 : s.heap.IsListIter i1 l1 k1) (z2 : s.heap.IsListIter i2 l2 k2) (p1 : s.heap.IsList l1 xs) (p2 : s.heap.IsList l2 ys) (stop : xs[k1]? = none ∨ ys[k2]? = none)
    (hE : ∀ h' e, (∀ c o, c ≠ z → c ≠ TO → c ≠ i1 → c ≠ i2 → s.heap.get? c = some o → h'.get? c = some o) → (∃ o, h'.get? e = some o ∧ o.cls = .type "StopIteration") → E (.ref e) { s with heap := h' }) :
    wpAny (model prog w) A (Builtin.«zip.__next__» ⟨[.ref z], []⟩) Q E s := by
  obtain ⟨hh, o1, vs1, g1, d1, c1⟩ := hot
  show wpAny _ _ (field (.ref z) 2 >>= _) _ _ _
  refine wpAny_bind (wpAny_field hz rfl (x := .bool false) rfl ?_)
  show wpAny _ _ (field (.ref z) 3 >>= _) _ _ _
  refine wpAny_bind (wpAny_field hz rfl (x := .ref TI) rfl ?_)
  refine wpAny_bind (wpAny_seqItems hTI rfl ?_)
  show wpAny _ _ (Builtin.SmallTypes.ownedTupleIsFree (.ref z) >>= _) _ _ _
  refine wpAny_bind ?_
  unfold Builtin.SmallTypes.ownedTupleIsFree
  refine wpAny_bind (wpAny_field hz rfl (x := .none) rfl (wpAny_pure ?_))
  simp only [if_true]
  refine wpAny_bind (wpAny_rule ?_)
  refine wpAny_bind (wpAny_field hz rfl (x := .ref TO) rfl ?_)
  refine wpAny_bind (wpAny_setField_rec hz (by simp) fun h₁ y₁ b₁ => ?_)
  replace y₁ : IsZip h₁ z TI TO .ellipsis := y₁
  have t₁ : h₁.get? x1 = some o1 := b₁.extBut _ _ nz g1
  refine wpAny_bind ?_
  simp only [List.zipIdx_cons, List.zipIdx_nil, List.forIn_cons, List.forIn_nil]
  refine wpAny_bind (wpAny_bind (wpAny_onRaise ?_))
  show wpAny _ _ (Builtin.SmallTypes.nextOf (.ref i1) >>= _) _ _ _
  have last : ∀ (h₂ : Heap) (e : Addr), IsZip h₂ z TI TO .ellipsis → (∀ c o, c ≠ z → c ≠ TO → c ≠ i1 → c ≠ i2 → s.heap.get? c = some o → h₂.get? c = some o) → (∃ o, h₂.get? e = some o ∧ o.cls = .type "StopIteration") → wpAny (model prog w) A (setField (.ref z) 0 .none) (fun _ s' => E (.ref e) s') E { s with heap := h₂ } := fun h₂ e y kp ⟨oe, e1, e2⟩ => by
    have ne : e ≠ z := fun q => by
      subst q
      rw [y] at e1
      cases e1
      simp at e2
    exact wpAny_setField_rec y (by simp) fun h₃ _ b₃ => hE h₃ e (fun c o m1 m2 m3 m4 q => b₃.extBut _ _ m1 (kp c o m1 m2 m3 m4 q)) ⟨oe, b₃.extBut _ _ ne e1, e2⟩
  cases hx : xs[k1]? with
  | none =>
    refine wpAny_bind (nextOf_lst_hot ⟨hh, o1, vs1, t₁, d1, c1⟩ n1 (z1.extBut b₁.extBut D.i1z) (p1.extBut b₁.extBut D.l1z) hx fun h₂ e b₂ he => ?_)
    exact last h₂ e (b₂ _ _ D.i1z.symm y₁) (fun c o m1 m2 m3 m4 q => b₂ _ _ m3 (b₁.extBut _ _ m1 q)) he
  | some x =>
    have hy : ys[k2]? = none := by
      rcases stop with q | q
      · rw [hx] at q
        cases q
      · exact q
    refine wpAny_bind (wpAny_nextOf_list_item (z1.extBut b₁.extBut D.i1z) (p1.extBut b₁.extBut D.l1z) hx fun h₂ _ b₂ => wpAny_pure ?_)
    have t₂ : h₂.get? x1 = some o1 := b₂.extBut _ _ n1 t₁
    refine wpAny_bind (wpAny_seqItems (b₂.extBut _ _ D.TOi1 (b₁.extBut _ _ D.TOz hTO)) rfl ?_)
    refine wpAny_bind (wpAny_updateSeq_pair (b₂.extBut _ _ D.TOi1 (b₁.extBut _ _ D.TOz hTO)) fun h₃ _ b₃ => ?_)
    have t₃ : h₃.get? x1 = some o1 := b₃.extBut _ _ nO t₂
    refine wpAny_bind (wpAny_letGo (wpAny_pure ?_))
    refine wpAny_bind (wpAny_bind (wpAny_onRaise ?_))
    show wpAny _ _ (Builtin.SmallTypes.nextOf (.ref i2) >>= _) _ _ _
    refine wpAny_bind (nextOf_lst_hot ⟨hh, o1, vs1, t₃, d1, c1⟩ n2 (((z2.extBut b₁.extBut D.i2z).extBut b₂.extBut D.i12.symm).extBut b₃.extBut D.TOi2.symm) (((p2.extBut b₁.extBut D.l2z).extBut b₂.extBut D.l2i1).extBut b₃.extBut D.l2TO) hy fun h₄ e b₄ he => ?_)
    exact last h₄ e (b₄ _ _ D.i2z.symm (b₃.extBut _ _ D.TOz.symm (b₂.extBut _ _ D.i1z.symm y₁))) (fun c o m1 m2 m3 m4 q => b₄ _ _ m4 (b₃.extBut _ _ m2 (b₂.extBut _ _ m3 (b₁.extBut _ _ m1 q)))) he
theorem next_zip_end_hot {z TI TO i1 i2 l1 l2 x1 : Addr} {k1 k2 : Nat} {xs ys : Array Value} {a b : Value} {Q : Option Value → Shared → Prop} (hot : HotAt A x1 s.heap) (nz : x1 ≠ z) (nO : x1 ≠ TO) (n1 : x1 ≠ i1) (n2 : x1 ≠ i2) (D : ZipApart z TI TO i1 i2 l1 l2)
    (hz : IsZip s.heap z TI TO .none) (hTI : IsPair s.heap TI (.ref i1) (.ref i2)) (hTO : IsPair s.heap TO a b)
    (z1 : s.heap.IsListIter i1 l1 k1) (z2 : s.heap.IsListIter i2 l2 k2) (p1 : s.heap.IsList l1 xs) (p2 : s.heap.IsList l2 ys) (stop : xs[k1]? = none ∨ ys[k2]? = none)
    (hQ : ∀ h', (∀ c o, c ≠ z → c ≠ TO → c ≠ i1 → c ≠ i2 → s.heap.get? c = some o → h'.get? c = some o) → Q none { s with heap := h' }) : wpAny (model prog w) A (pyNext (.ref z)) Q E s := by
  have hT : s.TypeIs (.ref z) "zip" := ⟨_, hz, rfl⟩
  unfold pyNext
  refine wpAny_bind (wpAny_attempt (wpAny_callSpecial?_slot (name := Str.ofString "__next__") hT PySem.F.slot_zip_next
    (wpAny_call_entry PySem.F.slot_zip_next hT PySem.F.entry_zip_next (zip_end_hot (A := A.in1) hot nz nO n1 n2 D hz hTI hTO z1 z2 p1 p2 stop fun h' e kp he => ?_) (PySem.F.args_zip_next_1 _))))
  obtain ⟨oe, e1, e2⟩ := he
  refine wpAny_bind (wpAny_isInstance (T := "StopIteration") (b := true) ⟨oe, e1, e2⟩ isSubtype_stop ?_)
  exact wpAny_pure (hQ _ kp)
end
end UPH

set_option Elab.async false
set_option linter.all false
set_option maxRecDepth 100000
set_option maxHeartbeats 4000000
/-! zip of two lists walked while an exception is handled -/
namespace UPH
open PySem PySem.Spec PyProof.Rows L2 HotX L2H
/-- a zip under way -/
def ZipSt (a b z TI TO i1 i2 : Addr) (i : Nat) (h : Heap) : Prop := IsZip h z TI TO .none ∧ IsPair h TI (.ref i1) (.ref i2) ∧ (∃ x y, IsPair h TO x y) ∧ h.IsListIter i1 a i ∧ h.IsListIter i2 b i
theorem turn_zipH {P : Program} {w : World} {K : PySem.W.Frag} {elts : List Expr} {kk : Nat} {tpos : Pos} {a b z TI TO i1 i2 : Addr} (D : ZipApart z TI TO i1 i2 a b) :
    TurnH P w K (.Tuple elts kk tpos) (Itz K a b) [z, TI, TO, i1, i2] z (ZipSt a b z TI TO i1 i2) where
  mem := List.mem_cons_self ..
  obj := fun i h y c hc => by
    obtain ⟨y1, y2, ⟨u, v, y3⟩, ⟨o1, e1, _, d1⟩, ⟨o2, e2, _, d2⟩⟩ := y
    simp only [List.mem_cons, List.not_mem_nil, or_false] at hc
    rcases hc with rfl | rfl | rfl | rfl | rfl
    · exact ⟨_, y1, fun v q => nomatch q⟩
    · exact ⟨_, y2, fun v q => nomatch q⟩
    · exact ⟨_, y3, fun v q => nomatch q⟩
    · exact ⟨o1, e1, fun v q => by rw [d1] at q; cases q⟩
    · exact ⟨o2, e2, fun v q => by rw [d2] at q; cases q⟩
  keep := fun i h h' y kp => by
    obtain ⟨y1, y2, ⟨u, v, y3⟩, y4, y5⟩ := y
    exact ⟨kp z (by simp) _ y1, kp TI (by simp) _ y2, ⟨u, v, kp TO (by simp) _ y3⟩, y4.at fun o q => kp i1 (by simp) o q, y5.at fun o q => kp i2 (by simp) o q⟩
  item := by
    intro X e1 e2 e3 hot i pins s σ H E J hf y go
    subst e1 e2 e3
    obtain ⟨y1, y2, ⟨u0, v0, y3⟩, y4, y5⟩ := y
    obtain ⟨xs, ys, v1, v2, hxs, hys, hv1, hv2⟩ := go
    obtain ⟨as, r1, p1, _⟩ := J.list hxs
    obtain ⟨bs, r2, p2, _⟩ := J.list hys
    obtain ⟨u1, hu1, ru1⟩ := r1.get hv1
    obtain ⟨u2, hu2, ru2⟩ := r2.get hv2
    have lz : z < s.heap.objs.size := Heap.lt_size y1
    refine wpAny_pyNext_zip_item D y1 y2 y3 y4 y5 p1.isList p2.isList (x := u1) (y := u2) (by simpa using hu1) (by simpa using hu2) fun h' w1 w2 w3 w4 w5 w6 kp => ?_
    refine ⟨_, rfl, wpAny_letOwnedTupleGo_zip (s := { s with heap := h' }) w1 fun h2 q1 sb => ?_⟩
    have tup : h2.get? s.heap.objs.size = some { cls := .type "tuple", data := .seq #[u1, u2] } := (sb.2 _ (Nat.ne_of_gt lz)).trans w5
    have new : ObjOk X.prog X.w (upd H s.heap.objs.size (.tup [v1, v2])) h2 s.heap.objs.size (.tup [v1, v2]) := ⟨by show 2 ≤ sizeLine; decide, [u1, u2], .cons ru1 (.cons ru2 .nil), ⟨_, tup, rfl, _, rfl⟩⟩
    have J1 : Inv X pins σ (upd H s.heap.objs.size (.tup [v1, v2])) { s with heap := h2 } := J.turnedNew (t' := s.toks) (ch := [z, TI, TO, i1, i2]) (fun c o hb q => (sb.2 c (fun e => hb (by simp [e]))).trans (kp c o (fun e => hb (by simp [e])) (fun e => hb (by simp [e])) (fun e => hb (by simp [e])) (fun e => hb (by simp [e])) q)) hf (Nat.le_refl _) new
    refine ⟨.ref s.heap.objs.size, _, J1, rfl, ⟨_, v1, v2, rfl, J.hok.fresh (Nat.le_refl _), rfl, fun l hl => by rw [J.list_inj hl hxs]; exact hv1, fun l hl => by rw [J.list_inj hl hys]; exact hv2⟩, ⟨q1, ?_, ⟨u1, u2, ?_⟩, ?_, ?_⟩, fun c hc => ?_⟩
    · exact (sb.2 _ D.TIz).trans (kp _ _ D.TIz D.TITO D.TIi1 D.TIi2 y2)
    · exact (sb.2 _ D.TOz).trans w2
    · exact w3.at fun o q => (sb.2 _ D.i1z).trans q
    · exact w4.at fun o q => (sb.2 _ D.i2z).trans q
    · have lt : c < s.heap.objs.size := by
        have hc' := hc
        simp only [List.mem_cons, List.not_mem_nil, or_false] at hc'
        rcases hc' with rfl | rfl | rfl | rfl | rfl
        · exact lz
        · exact Heap.lt_size y2
        · exact Heap.lt_size y3
        · obtain ⟨_, e, _⟩ := y4
          exact Heap.lt_size e
        · obtain ⟨_, e, _⟩ := y5
          exact Heap.lt_size e
      rw [upd_ne (Nat.ne_of_lt lt)]
      exact (hf c hc).1
  done := by
    intro X e1 e2 e3 hot i pins s σ H E J hf y stop
    subst e1 e2 e3
    obtain ⟨y1, y2, ⟨u0, v0, y3⟩, y4, y5⟩ := y
    obtain ⟨xs, ys, hxs, hys, fin⟩ := stop
    obtain ⟨as, r1, p1, _⟩ := J.list hxs
    obtain ⟨bs, r2, p2, _⟩ := J.list hys
    have l1 := r1.length
    have l2 := r2.length
    have none : as.toArray[i]? = none ∨ bs.toArray[i]? = none := by
      rcases fin with q | q
      · exact .inl (by simp; omega)
      · exact .inr (by simp; omega)
    obtain ⟨p, hp1, hpn⟩ := hot
    obtain ⟨hh, vs1, d1, c1⟩ := hp1
    have pin := J.pin p (List.mem_append_left _ hpn)
    have ne : ∀ c ∈ [z, TI, TO, i1, i2], p.1 ≠ c := fun c hc => (hf c hc).2.2.2.2.2 p (List.mem_append_left _ hpn)
    exact next_zip_end_hot ⟨hh, p.2, vs1, pin.1, d1, c1⟩ (ne z (by simp)) (ne TO (by simp)) (ne i1 (by simp)) (ne i2 (by simp)) D y1 y2 y3 y4 y5 p1.isList p2.isList none fun h' kp => ⟨rfl, J.turnedL (t' := s.toks) (ch := [z, TI, TO, i1, i2]) (fun c o hb q => kp c o (fun e => hb (by simp [e])) (fun e => hb (by simp [e])) (fun e => hb (by simp [e])) (fun e => hb (by simp [e])) q) hf⟩
  self := fun _ _ _ _ _ y h => wpAny_pyIter_zip y.1 h
end UPH

set_option Elab.async false
set_option linter.all false
set_option maxRecDepth 100000
set_option maxHeartbeats 4000000
/-! zip of two tuples walked while an exception is handled -/
namespace UPH
open PySem PySem.Spec PyProof.Rows L2 HotX L2H
section
variable {prog : Program} {w : World} {A : Around} {E : Value → Shared → Prop} {s : Shared}
theorem nextOf_tup_hot {it l x1 : Addr} {i : Nat} {items : Array Value} {Q : Value → Shared → Prop} (hot : HotAt A x1 s.heap) (hne : x1 ≠ it) (z : s.heap.IsTupleIter it l i) (hl : s.heap.IsTuple l items) (hx : items[i]? = none)
    (hE : ∀ h' e, Heap.ExtBut it s.heap h' → (∃ o, h'.get? e = some o ∧ o.cls = .type "StopIteration") → E (.ref e) { s with heap := h' }) :
    wpAny (model prog w) A (Builtin.SmallTypes.nextOf (.ref it)) Q E s := by
  obtain ⟨hh, o1, vs1, h1, d1, c1⟩ := hot
  obtain ⟨ob, g1, g2, g3⟩ := id z
  obtain ⟨ol, hol, _, nl, hdl⟩ := hl
  unfold Builtin.SmallTypes.nextOf
  refine wpAny_bind (wpAny_callSpecial?_slot (name := Str.ofString "__next__") z.typeIs slot_tupleiter_next
    (wpAny_call_entry slot_tupleiter_next z.typeIs entry_tupleiter_next ?_ (args_tupleiter_next _)))
  show wpAny _ _ (field (.ref it) 0 >>= _) _ _ s
  refine wpAny_bind (wpAny_field g1 g3 (x := .ref l) rfl ?_)
  show wpAny _ _ (if (Value.ref l == Value.none) = true then _ else _) _ _ s
  rw [if_neg (show ¬ ((Value.ref l == Value.none) = true) from Bool.false_ne_true)]
  show wpAny _ _ (field (.ref it) 1 >>= _) _ _ s
  refine wpAny_bind (wpAny_field g1 g3 (x := .int i 0) rfl ?_)
  show wpAny _ _ (seqItems? (.ref l) >>= _) _ _ s
  refine wpAny_bind (wpAny_seqItems hol hdl ?_)
  simp only [Int.toNat_natCast, hx]
  refine wpAny_bind (wpAny_rule (wpAny_bind (wpAny_setField g1 g3 (by simp) ?_)))
  have h2 : (s.heap.update it (Obj.mapFields (·.setIfInBounds 0 .none))).get? x1 = some o1 := by
    rw [Heap.get?_update_other _ _ hne.symm]
    exact h1
  refine raise_stop (A := A.in1) ⟨hh, o1, vs1, h2, d1, c1⟩ fun h' e kp st => hE h' e (fun b o hb eb => kp b o ?_) st
  rw [Heap.get?_update_other _ _ (Ne.symm hb)]
  exact eb
theorem zip_endT_hot {z TI TO i1 i2 l1 l2 x1 : Addr} {k1 k2 : Nat} {xs ys : Array Value} {a b : Value} {Q : Fin → Shared → Prop} (hot : HotAt A x1 s.heap) (nz : x1 ≠ z) (nO : x1 ≠ TO) (n1 : x1 ≠ i1) (n2 : x1 ≠ i2) (D : ZipApart z TI TO i1 i2 l1 l2)
    (hz : IsZip s.heap z TI TO .none) (hTI : IsPair s.heap TI (.ref i1) (.ref i2)) (hTO : IsPair s.heap TO a b)
    (z1 : s.heap.IsTupleIter i1 l1 k1) (z2 : s.heap.IsTupleIter i2 l2 k2) (p1 : s.heap.IsTuple l1 xs) (p2 : s.heap.IsTuple l2 ys) (stop : xs[k1]? = none ∨ ys[k2]? = none)
    (hE : ∀ h' e, (∀ c o, c ≠ z → c ≠ TO → c ≠ i1 → c ≠ i2 → s.heap.get? c = some o → h'.get? c = some o) → (∃ o, h'.get? e = some o ∧ o.cls = .type "StopIteration") → E (.ref e) { s with heap := h' }) :
    wpAny (model prog w) A (Builtin.«zip.__next__» ⟨[.ref z], []⟩) Q E s := by
  obtain ⟨hh, o1, vs1, g1, d1, c1⟩ := hot
  show wpAny _ _ (field (.ref z) 2 >>= _) _ _ _
  refine wpAny_bind (wpAny_field hz rfl (x := .bool false) rfl ?_)
  show wpAny _ _ (field (.ref z) 3 >>= _) _ _ _
  refine wpAny_bind (wpAny_field hz rfl (x := .ref TI) rfl ?_)
  refine wpAny_bind (wpAny_seqItems hTI rfl ?_)
  show wpAny _ _ (Builtin.SmallTypes.ownedTupleIsFree (.ref z) >>= _) _ _ _
  refine wpAny_bind ?_
  unfold Builtin.SmallTypes.ownedTupleIsFree
  refine wpAny_bind (wpAny_field hz rfl (x := .none) rfl (wpAny_pure ?_))
  simp only [if_true]
  refine wpAny_bind (wpAny_rule ?_)
  refine wpAny_bind (wpAny_field hz rfl (x := .ref TO) rfl ?_)
  refine wpAny_bind (wpAny_setField_rec hz (by simp) fun h₁ y₁ b₁ => ?_)
  replace y₁ : IsZip h₁ z TI TO .ellipsis := y₁
  have t₁ : h₁.get? x1 = some o1 := b₁.extBut _ _ nz g1
  refine wpAny_bind ?_
  simp only [List.zipIdx_cons, List.zipIdx_nil, List.forIn_cons, List.forIn_nil]
  refine wpAny_bind (wpAny_bind (wpAny_onRaise ?_))
  show wpAny _ _ (Builtin.SmallTypes.nextOf (.ref i1) >>= _) _ _ _
  have last : ∀ (h₂ : Heap) (e : Addr), IsZip h₂ z TI TO .ellipsis → (∀ c o, c ≠ z → c ≠ TO → c ≠ i1 → c ≠ i2 → s.heap.get? c = some o → h₂.get? c = some o) → (∃ o, h₂.get? e = some o ∧ o.cls = .type "StopIteration") → wpAny (model prog w) A (setField (.ref z) 0 .none) (fun _ s' => E (.ref e) s') E { s with heap := h₂ } := fun h₂ e y kp ⟨oe, e1, e2⟩ => by
    have ne : e ≠ z := fun q => by
      subst q
      rw [y] at e1
      cases e1
      simp at e2
    exact wpAny_setField_rec y (by simp) fun h₃ _ b₃ => hE h₃ e (fun c o m1 m2 m3 m4 q => b₃.extBut _ _ m1 (kp c o m1 m2 m3 m4 q)) ⟨oe, b₃.extBut _ _ ne e1, e2⟩
  cases hx : xs[k1]? with
  | none =>
    refine wpAny_bind (nextOf_tup_hot ⟨hh, o1, vs1, t₁, d1, c1⟩ n1 (z1.extBut b₁.extBut D.i1z) (p1.extBut b₁.extBut D.l1z) hx fun h₂ e b₂ he => ?_)
    exact last h₂ e (b₂ _ _ D.i1z.symm y₁) (fun c o m1 m2 m3 m4 q => b₂ _ _ m3 (b₁.extBut _ _ m1 q)) he
  | some x =>
    have hy : ys[k2]? = none := by
      rcases stop with q | q
      · rw [hx] at q
        cases q
      · exact q
    refine wpAny_bind (RZ.nextOf_tuple_item (z1.extBut b₁.extBut D.i1z) (p1.extBut b₁.extBut D.l1z) hx fun h₂ _ b₂ => wpAny_pure ?_)
    have t₂ : h₂.get? x1 = some o1 := b₂.extBut _ _ n1 t₁
    refine wpAny_bind (wpAny_seqItems (b₂.extBut _ _ D.TOi1 (b₁.extBut _ _ D.TOz hTO)) rfl ?_)
    refine wpAny_bind (wpAny_updateSeq_pair (b₂.extBut _ _ D.TOi1 (b₁.extBut _ _ D.TOz hTO)) fun h₃ _ b₃ => ?_)
    have t₃ : h₃.get? x1 = some o1 := b₃.extBut _ _ nO t₂
    refine wpAny_bind (wpAny_letGo (wpAny_pure ?_))
    refine wpAny_bind (wpAny_bind (wpAny_onRaise ?_))
    show wpAny _ _ (Builtin.SmallTypes.nextOf (.ref i2) >>= _) _ _ _
    refine wpAny_bind (nextOf_tup_hot ⟨hh, o1, vs1, t₃, d1, c1⟩ n2 (((z2.extBut b₁.extBut D.i2z).extBut b₂.extBut D.i12.symm).extBut b₃.extBut D.TOi2.symm) (((p2.extBut b₁.extBut D.l2z).extBut b₂.extBut D.l2i1).extBut b₃.extBut D.l2TO) hy fun h₄ e b₄ he => ?_)
    exact last h₄ e (b₄ _ _ D.i2z.symm (b₃.extBut _ _ D.TOz.symm (b₂.extBut _ _ D.i1z.symm y₁))) (fun c o m1 m2 m3 m4 q => b₄ _ _ m4 (b₃.extBut _ _ m2 (b₂.extBut _ _ m3 (b₁.extBut _ _ m1 q)))) he
theorem next_zipT_end_hot {z TI TO i1 i2 l1 l2 x1 : Addr} {k1 k2 : Nat} {xs ys : Array Value} {a b : Value} {Q : Option Value → Shared → Prop} (hot : HotAt A x1 s.heap) (nz : x1 ≠ z) (nO : x1 ≠ TO) (n1 : x1 ≠ i1) (n2 : x1 ≠ i2) (D : ZipApart z TI TO i1 i2 l1 l2)
    (hz : IsZip s.heap z TI TO .none) (hTI : IsPair s.heap TI (.ref i1) (.ref i2)) (hTO : IsPair s.heap TO a b)
    (z1 : s.heap.IsTupleIter i1 l1 k1) (z2 : s.heap.IsTupleIter i2 l2 k2) (p1 : s.heap.IsTuple l1 xs) (p2 : s.heap.IsTuple l2 ys) (stop : xs[k1]? = none ∨ ys[k2]? = none)
    (hQ : ∀ h', (∀ c o, c ≠ z → c ≠ TO → c ≠ i1 → c ≠ i2 → s.heap.get? c = some o → h'.get? c = some o) → Q none { s with heap := h' }) : wpAny (model prog w) A (pyNext (.ref z)) Q E s := by
  have hT : s.TypeIs (.ref z) "zip" := ⟨_, hz, rfl⟩
  unfold pyNext
  refine wpAny_bind (wpAny_attempt (wpAny_callSpecial?_slot (name := Str.ofString "__next__") hT PySem.F.slot_zip_next
    (wpAny_call_entry PySem.F.slot_zip_next hT PySem.F.entry_zip_next (zip_endT_hot (A := A.in1) hot nz nO n1 n2 D hz hTI hTO z1 z2 p1 p2 stop fun h' e kp he => ?_) (PySem.F.args_zip_next_1 _))))
  obtain ⟨oe, e1, e2⟩ := he
  refine wpAny_bind (wpAny_isInstance (T := "StopIteration") (b := true) ⟨oe, e1, e2⟩ isSubtype_stop ?_)
  exact wpAny_pure (hQ _ kp)
end
/-- a zip of two tuples under way -/
def ZipStT (a b z TI TO i1 i2 : Addr) (i : Nat) (h : Heap) : Prop := IsZip h z TI TO .none ∧ IsPair h TI (.ref i1) (.ref i2) ∧ (∃ x y, IsPair h TO x y) ∧ h.IsTupleIter i1 a i ∧ h.IsTupleIter i2 b i
theorem turn_zipTH {P : Program} {w : World} {K : PySem.W.Frag} {elts : List Expr} {kk : Nat} {tpos : Pos} {a b z TI TO i1 i2 : Addr} (D : ZipApart z TI TO i1 i2 a b) :
    TurnH P w K (.Tuple elts kk tpos) (RZ.ItzT K a b) [z, TI, TO, i1, i2] z (ZipStT a b z TI TO i1 i2) where
  mem := List.mem_cons_self ..
  obj := fun i h y c hc => by
    obtain ⟨y1, y2, ⟨u, v, y3⟩, ⟨o1, e1, _, d1⟩, ⟨o2, e2, _, d2⟩⟩ := y
    simp only [List.mem_cons, List.not_mem_nil, or_false] at hc
    rcases hc with rfl | rfl | rfl | rfl | rfl
    · exact ⟨_, y1, fun v q => nomatch q⟩
    · exact ⟨_, y2, fun v q => nomatch q⟩
    · exact ⟨_, y3, fun v q => nomatch q⟩
    · exact ⟨o1, e1, fun v q => by rw [d1] at q; cases q⟩
    · exact ⟨o2, e2, fun v q => by rw [d2] at q; cases q⟩
  keep := fun i h h' y kp => by
    obtain ⟨y1, y2, ⟨u, v, y3⟩, y4, y5⟩ := y
    exact ⟨kp z (by simp) _ y1, kp TI (by simp) _ y2, ⟨u, v, kp TO (by simp) _ y3⟩, y4.at fun o q => kp i1 (by simp) o q, y5.at fun o q => kp i2 (by simp) o q⟩
  item := by
    intro X e1 e2 e3 hot i pins s σ H E J hf y go
    subst e1 e2 e3
    obtain ⟨y1, y2, ⟨u0, v0, y3⟩, y4, y5⟩ := y
    obtain ⟨xs, ys, v1, v2, hxs, hys, hv1, hv2⟩ := go
    obtain ⟨as, r1, p1, _⟩ := J.tuple hxs
    obtain ⟨bs, r2, p2, _⟩ := J.tuple hys
    obtain ⟨u1, hu1, ru1⟩ := r1.get hv1
    obtain ⟨u2, hu2, ru2⟩ := r2.get hv2
    have lz : z < s.heap.objs.size := Heap.lt_size y1
    refine RZ.pyNext_zipT_item D y1 y2 y3 y4 y5 p1 p2 (x := u1) (y := u2) (by simpa using hu1) (by simpa using hu2) fun h' w1 w2 w3 w4 w5 w6 kp => ?_
    refine ⟨_, rfl, wpAny_letOwnedTupleGo_zip (s := { s with heap := h' }) w1 fun h2 q1 sb => ?_⟩
    have tup : h2.get? s.heap.objs.size = some { cls := .type "tuple", data := .seq #[u1, u2] } := (sb.2 _ (Nat.ne_of_gt lz)).trans w5
    have new : ObjOk X.prog X.w (upd H s.heap.objs.size (.tup [v1, v2])) h2 s.heap.objs.size (.tup [v1, v2]) := ⟨by show 2 ≤ sizeLine; decide, [u1, u2], .cons ru1 (.cons ru2 .nil), ⟨_, tup, rfl, _, rfl⟩⟩
    have J1 : Inv X pins σ (upd H s.heap.objs.size (.tup [v1, v2])) { s with heap := h2 } := J.turnedNew (t' := s.toks) (ch := [z, TI, TO, i1, i2]) (fun c o hb q => (sb.2 c (fun e => hb (by simp [e]))).trans (kp c o (fun e => hb (by simp [e])) (fun e => hb (by simp [e])) (fun e => hb (by simp [e])) (fun e => hb (by simp [e])) q)) hf (Nat.le_refl _) new
    refine ⟨.ref s.heap.objs.size, _, J1, rfl, ⟨_, v1, v2, rfl, J.hok.fresh (Nat.le_refl _), rfl, fun l hl => by rw [J.tuple_inj hl hxs]; exact hv1, fun l hl => by rw [J.tuple_inj hl hys]; exact hv2⟩, ⟨q1, ?_, ⟨u1, u2, ?_⟩, ?_, ?_⟩, fun c hc => ?_⟩
    · exact (sb.2 _ D.TIz).trans (kp _ _ D.TIz D.TITO D.TIi1 D.TIi2 y2)
    · exact (sb.2 _ D.TOz).trans w2
    · exact w3.at fun o q => (sb.2 _ D.i1z).trans q
    · exact w4.at fun o q => (sb.2 _ D.i2z).trans q
    · have lt : c < s.heap.objs.size := by
        have hc' := hc
        simp only [List.mem_cons, List.not_mem_nil, or_false] at hc'
        rcases hc' with rfl | rfl | rfl | rfl | rfl
        · exact lz
        · exact Heap.lt_size y2
        · exact Heap.lt_size y3
        · obtain ⟨_, e, _⟩ := y4
          exact Heap.lt_size e
        · obtain ⟨_, e, _⟩ := y5
          exact Heap.lt_size e
      rw [upd_ne (Nat.ne_of_lt lt)]
      exact (hf c hc).1
  done := by
    intro X e1 e2 e3 hot i pins s σ H E J hf y stop
    subst e1 e2 e3
    obtain ⟨y1, y2, ⟨u0, v0, y3⟩, y4, y5⟩ := y
    obtain ⟨xs, ys, hxs, hys, fin⟩ := stop
    obtain ⟨as, r1, p1, _⟩ := J.tuple hxs
    obtain ⟨bs, r2, p2, _⟩ := J.tuple hys
    have l1 := r1.length
    have l2 := r2.length
    have none : as.toArray[i]? = none ∨ bs.toArray[i]? = none := by
      rcases fin with q | q
      · exact .inl (by simp; omega)
      · exact .inr (by simp; omega)
    obtain ⟨p, hp1, hpn⟩ := hot
    obtain ⟨hh, vs1, d1, c1⟩ := hp1
    have pin := J.pin p (List.mem_append_left _ hpn)
    have ne : ∀ c ∈ [z, TI, TO, i1, i2], p.1 ≠ c := fun c hc => (hf c hc).2.2.2.2.2 p (List.mem_append_left _ hpn)
    exact next_zipT_end_hot ⟨hh, p.2, vs1, pin.1, d1, c1⟩ (ne z (by simp)) (ne TO (by simp)) (ne i1 (by simp)) (ne i2 (by simp)) D y1 y2 y3 y4 y5 p1 p2 none fun h' kp => ⟨rfl, J.turnedL (t' := s.toks) (ch := [z, TI, TO, i1, i2]) (fun c o hb q => kp c o (fun e => hb (by simp [e])) (fun e => hb (by simp [e])) (fun e => hb (by simp [e])) (fun e => hb (by simp [e])) q) hf⟩
  self := fun _ _ _ _ _ y h => wpAny_pyIter_zip y.1 h
end UPH

set_option Elab.async false
set_option linter.all false
set_option maxRecDepth 100000
set_option maxHeartbeats 4000000
/-! a def that keeps its promise also while an exception is handled: one text, two derivations -/
namespace UP
open PySem PySem.Spec PyProof.Rows L2 HotX L2H UPH
section
variable (P : Program) (w : World) (K : PySem.W.Frag) (mg : Str → Option Value) (base : Heap)
def HasH (k : Nat) (x : Str) (ps : List Str) (sp : Sp) : Prop :=
  ∃ f fd, mg x = some (.ref f) ∧ PySem.W.keepIn K (.ref f) = true ∧ Binds K fd ps [] ∧ FnH P w K mg base CX0 k f fd ps sp
/-- both -/
def HasB (k : Nat) (x : Str) (ps : List Str) (sp : Sp) : Prop := Has P w K mg base k x ps sp ∧ HasH P w K mg base k x ps sp
end
section
variable {P : Program} {w : World} {K : PySem.W.Frag} {mg : Str → Option Value} {base : Heap}
theorem hasH_of {x : Str} {st : Stmt} {ps N : List Str} {k : Nat} {sp : Sp} (D : Df K mg x st) (S : FnScope N ps (defScope st))
    (hb : ∀ (kV doc pm : Value) (an : Option Addr) (cdv ct : Value) (us : List Value), us.length = ps.length → bindArgs (PySem.W.fnOf x x (defArgs st) (defBody st) (defScope st) .none kV doc pm an cdv ct) ⟨us, []⟩ = pure (ps.zip us))
    (len : ∀ vs H Q E, sp vs H Q E → vs.length = ps.length)
    (body : ∀ (f : Addr) (cdv : Value) (A : Around) (outer : List Env) (s : Shared) (H : Hp) (vs : List V) (Q : VK) (E : XK) (p : Addr × Obj), Hot1 A p → RoomH k (A.deeper (envOfC x (defScope st) s.heap.objs.size f cdv)) → sp vs H Q E →
      ∃ t, PSs (cxH CX0 P w K mg base N x (defScope st) f cdv A outer s H E p).nox (defBody st) t ∧ t { nx := fun _ H' => Q .non H', rt := Q } (L2.start N vs) H) :
    HasH P w K mg base (k + 1) x ps sp := by
  obtain ⟨f, fd, g, F⟩ := D
  have F' := F
  obtain ⟨oc, od, kV, doc, pm, an, cdv, ct, osl, rfl, lk, hcd⟩ := F'.ex
  exact ⟨f, _, g, F.kp, F.binds hb, fn_ofH lk hcd S len fun A outer s H vs Q E p hp hr h => by
    obtain ⟨t, t1, t2⟩ := body f cdv A outer s H vs Q E p hp hr h
    exact ⟨t, t1.nox, t2⟩⟩
theorem hasB_of {x : Str} {st : Stmt} {ps N : List Str} {k : Nat} {sp : Sp} (D : Df K mg x st) (S : FnScope N ps (defScope st))
    (hb : ∀ (kV doc pm : Value) (an : Option Addr) (cdv ct : Value) (us : List Value), us.length = ps.length → bindArgs (PySem.W.fnOf x x (defArgs st) (defBody st) (defScope st) .none kV doc pm an cdv ct) ⟨us, []⟩ = pure (ps.zip us))
    (len : ∀ vs H Q E, sp vs H Q E → vs.length = ps.length)
    (body : ∀ (f : Addr) (cdv : Value) (A : Around) (outer : List Env) (s : Shared) (H : Hp) (vs : List V) (Q : VK) (E : XK), RoomH k (A.deeper (envOfC x (defScope st) s.heap.objs.size f cdv)) → sp vs H Q E →
      ∃ t, (Room k (A.deeper (envOfC x (defScope st) s.heap.objs.size f cdv)) → PSs (cxOf CX0 P w K mg base N x (defScope st) f cdv A outer s H E).nox (defBody st) t) ∧
        (∀ p : Addr × Obj, Hot1 A p → HotC (cxH CX0 P w K mg base N x (defScope st) f cdv A outer s H E p) → PSs (cxH CX0 P w K mg base N x (defScope st) f cdv A outer s H E p) (defBody st) t) ∧
        t { nx := fun _ H' => Q .non H', rt := Q } (L2.start N vs) H) :
    HasB P w K mg base (k + 1) x ps sp := by
  refine ⟨has_of D S hb len fun f cdv A outer s H vs Q E hr h => ?_, ?_⟩
  · obtain ⟨t, t1, _, t3⟩ := body f cdv A outer s H vs Q E (roomH_of hr) h
    exact ⟨t, t1 hr, t3⟩
  · obtain ⟨f, fd, g, F⟩ := D
    have F' := F
    obtain ⟨oc, od, kV, doc, pm, an, cdv, ct, osl, rfl, lk, hcd⟩ := F'.ex
    refine ⟨f, _, g, F.kp, F.binds hb, fn_ofH lk hcd S len fun A outer s H vs Q E p hp hr h => ?_⟩
    obtain ⟨t, _, t2, t3⟩ := body f cdv A outer s H vs Q E hr h
    exact ⟨t, t2 p hp ⟨p, hp, List.mem_singleton.mpr rfl⟩, t3⟩
end
section
variable {X : Cx}
/-- a call while an exception is handled -/
theorem pe_callHot {k : Nat} {x : Str} {ps : List Str} {sp : Sp} {p pos : Pos} {e : Expr} {es : List Expr} {t : TA} (G : HasH X.prog X.w X.K X.mg X.base k x ps sp) (hr : RoomH k X.A) (hc : HotC X) (hg : Gl X x) (ha : PA X (e :: es) t)
    (hdb : (x == ("__debug__" : Str)) = false := by decide) (he : starEach (e :: es) X.env = (false, eval e X.env) :: starEach es X.env := by rfl) (hpl : (backTo pos (starEach es X.env)).any (·.1) = false := by rfl) :
    PE X (.Call (.Name x p) (e :: es) [] pos) (tCall sp [] E0 t) := by
  obtain ⟨f, fd, g, kp, b, F⟩ := G
  have call := L2H.pe_callH (q := p) (pos := pos) (E := fun _ => E0) F hr hc hg g kp b (fun _ _ _ _ _ _ _ h => h.elim) ha hdb he hpl
  refine ⟨fun pins s σ H Q I h => call.run pins s σ H Q I ?_⟩
  have e1 : (fun (vs : List V) H1 => sp (vs ++ []) H1 Q E0) = fun vs H1 => sp vs H1 Q E0 := by
    funext vs H1
    rw [List.append_nil]
  have h : t σ H fun vs H1 => sp (vs ++ []) H1 Q E0 := h
  rw [e1] at h
  exact h
end
end UP

set_option Elab.async false
set_option linter.all false
set_option maxRecDepth 100000
set_option maxHeartbeats 4000000
/-! lists or tuples walked while an exception is handled -/
namespace UP
open PySem PySem.Spec PyProof.Rows L2 HotX L2H UPH
section
variable {X : Cx}
theorem pi_seqVH (i : Nat) {x : Str} {pos : Pos} {tg : Expr} (hN : X.N[i]? = some x := by rfl) (hv : Vis X.env.scope x := by first | exact Or.inl rfl | exact Or.inr (Or.inl rfl) | exact Or.inr (Or.inr rfl)) (hd : (x == ("__debug__" : Str)) = false := by decide)
    (hc : (x == ("__classdict__" : Str)) = false := by decide) : PIH X tg (.Name x pos) (iSeqV i) := by
  refine ⟨fun pins s σ H R I hw => ?_⟩
  obtain ⟨a, xs, e, h, k⟩ := hw
  rcases h with h | h
  · exact (pi_lstH (pe_var hN hv hd hc)).run pins s σ H R I ⟨_, e, a, rfl, ⟨xs, .of h⟩, k _ (wk_list h)⟩
  · exact (pi_tupH (pe_var hN hv hd hc)).run pins s σ H R I ⟨_, e, a, rfl, ⟨xs, .of h⟩, k _ (wk_tup h)⟩
/-- zip(a, b) of two lists or two tuples -/
theorem pi_zipAH {e e2 : Expr} {ta : TA} {p pos tpos : Pos} {elts : List Expr} {kk : Nat} (hg : Gl X "zip") (hm : X.mg "zip" = none) (ha : PA X [e, e2] ta)
    (hs : starEach [e, e2] X.env = (false, eval e X.env) :: starEach [e2] X.env := by rfl) (hpl : (backTo pos (starEach [e2] X.env)).any (·.1) = false := by rfl) :
    PIH X (.Tuple elts kk tpos) (.Call (.Name "zip" p) [e, e2] [] pos) (RZ.iZipA X.K ta) := by
  refine ⟨fun pins s σ H R J h => Call_ (ld_blt J hg hm PyProof.Rows.boot_zip (PyProof.Rows.callWith_type1 (thn (ha.run pos pins s σ H _ J h) fun us s1 ⟨vs, H1, J1, r1, q1⟩ => ?_) hs hpl))⟩
  obtain ⟨a, b, xs, ys, rfl, q1⟩ := q1
  cases r1 with
  | cons r rr =>
    cases rr with
    | cons r' rr =>
      cases rr
      cases r
      cases r'
      have fresh : ∀ c, c ∈ [s1.heap.objs.size + 4, s1.heap.objs.size + 2, s1.heap.objs.size + 3, s1.heap.objs.size, s1.heap.objs.size + 1] → FpOk X pins H1 c := fun c hc => by
        have le : s1.heap.objs.size ≤ c := by
          simp only [List.mem_cons, List.not_mem_nil, or_false] at hc
          omega
        exact J1.fpOk le (J1.hok.fresh le)
      rcases q1 with ⟨hx, hy, q⟩ | ⟨hx, hy, q⟩
      · obtain ⟨as, _, p1, _⟩ := J1.list hx
        obtain ⟨bs, _, p2, _⟩ := J1.list hy
        refine call_zip_2 p1.isList p2.isList fun h' y1 y2 y3 y4 y5 _ kp => wpAny_pyIter_zip y1 ?_
        exact ⟨_, _, _, _, H1, rfl, J1.kept (t' := s1.toks) kp, turn_zipH (PySem.W.ktu_apart s1.heap.objs.size a b p1.lt p2.lt), ⟨y1, y2, ⟨_, _, y3⟩, y4, y5⟩, fresh, q⟩
      · obtain ⟨as, _, p1, _⟩ := J1.tuple hx
        obtain ⟨bs, _, p2, _⟩ := J1.tuple hy
        obtain ⟨o1, g1, _⟩ := id p1
        obtain ⟨o2, g2, _⟩ := id p2
        refine RZ.call_zipT (show s1.heap.IsTuple a as.toArray from p1) (show s1.heap.IsTuple b bs.toArray from p2) fun h' y1 y2 y3 y4 y5 _ kp => wpAny_pyIter_zip y1 ?_
        exact ⟨_, _, _, _, H1, rfl, J1.kept (t' := s1.toks) kp, turn_zipTH (PySem.W.ktu_apart s1.heap.objs.size a b (Heap.lt_size g1) (Heap.lt_size g2)), ⟨y1, y2, ⟨_, _, y3⟩, y4, y5⟩, fresh, q⟩
theorem pi_zip1H {i : Nat} {tg it : Expr} {tl th : TO} (h : PIH X tg it (RZ.iZipA X.K (tCons (tVar i) (tCons (tSl (fun x lo hi H Q => rSlL X.K x lo hi H Q ∨ rSlA X.K x lo hi H Q) (tVar i) tl th) tNil))))
    (h1 : ∀ (σ : L2.St) (H : Hp) (Q : Option Int → Hp → Prop), Q (some 1) H → tl σ H Q) (h2 : ∀ (σ : L2.St) (H : Hp) (Q : Option Int → Hp → Prop), Q none H → th σ H Q) : PIH X tg it (iZip1 i) := by
  refine ⟨fun pins s σ H R I hw => h.run pins s σ H R I ?_⟩
  obtain ⟨a, xs, e, hx, k⟩ := hw
  refine ⟨_, e, _, e, h1 σ H _ (h2 σ H _ ?_)⟩
  have gn : ∀ j : Nat, (xs.drop 1)[j]? = xs[j + 1]? := fun j => by rw [List.getElem?_drop, Nat.add_comm 1 j]
  rcases hx with hx | hx
  · refine .inl ⟨a, xs, rfl, .of hx, fun c nc => ?_⟩
    have sc : Same H (upd H c (.lst (cutV xs (some 1) none))) := fun b o z => by rw [upd_ne (ne_of_none z nc)]; exact z
    have hc : (upd H c (.lst (cutV xs (some 1) none))) c = some (.lst (xs.drop 1)) := by rw [upd_same, cutt_one]
    refine ⟨a, c, xs, xs.drop 1, rfl, .inl ⟨.of (sc _ _ hx), .of hc, k _ _ sc ⟨fun j H' sj hj => ?_, fun H' sj => ?_, fun j x H' H'' sj y => ?_⟩⟩⟩
    · exact ⟨xs, xs.drop 1, xs[j], xs[j + 1], .of (sj _ _ (sc _ _ hx)), .of (sj _ _ hc), List.getElem?_eq_getElem (by omega), by rw [gn]; exact List.getElem?_eq_getElem hj⟩
    · exact ⟨xs, xs.drop 1, .of (sj _ _ (sc _ _ hx)), .of (sj _ _ hc), .inr (by rw [List.length_drop]; exact Nat.le_refl _)⟩
    · obtain ⟨T, x1, x2, e1, e2, e3, f1, f2⟩ := y
      exact ⟨T, x1, x2, e1, e2, e3, f1 xs (.of (sj _ _ (sc _ _ hx))), fun _ => by rw [← gn]; exact f2 _ (.of (sj _ _ hc))⟩
  · refine .inr ⟨a, xs, rfl, .of hx, fun z => ?_, fun z c nc => ?_⟩
    · have lz : xs.length = 0 := by
        have z1 := z.1
        rw [show HT.sIx xs.length 0 (some 1) = min 1 xs.length from HT.sIx_nat xs.length 0 1] at z1
        omega
      refine ⟨a, a, xs, xs, rfl, .inr ⟨.of hx, .of hx, k _ _ (Same.refl _) ⟨fun j H' sj hj => by omega, fun H' sj => ⟨xs, xs, .of (sj _ _ hx), .of (sj _ _ hx), .inl (by omega)⟩, fun j x H' H'' sj y => ?_⟩⟩⟩
      obtain ⟨T, x1, x2, e1, e2, e3, f1, f2⟩ := y
      exact ⟨T, x1, x2, e1, e2, e3, f1 xs (.of (sj _ _ hx)), fun hj => by omega⟩
    · have sc : Same H (upd H c (.tup (cutV xs (some 1) none))) := fun b o z => by rw [upd_ne (ne_of_none z nc)]; exact z
      have hc : (upd H c (.tup (cutV xs (some 1) none))) c = some (.tup (xs.drop 1)) := by rw [upd_same, cutt_one]
      refine ⟨a, c, xs, xs.drop 1, rfl, .inr ⟨.of (sc _ _ hx), .of hc, k _ _ sc ⟨fun j H' sj hj => ?_, fun H' sj => ?_, fun j x H' H'' sj y => ?_⟩⟩⟩
      · exact ⟨xs, xs.drop 1, xs[j], xs[j + 1], .of (sj _ _ (sc _ _ hx)), .of (sj _ _ hc), List.getElem?_eq_getElem (by omega), by rw [gn]; exact List.getElem?_eq_getElem hj⟩
      · exact ⟨xs, xs.drop 1, .of (sj _ _ (sc _ _ hx)), .of (sj _ _ hc), .inr (by rw [List.length_drop]; exact Nat.le_refl _)⟩
      · obtain ⟨T, x1, x2, e1, e2, e3, f1, f2⟩ := y
        exact ⟨T, x1, x2, e1, e2, e3, f1 xs (.of (sj _ _ (sc _ _ hx))), fun _ => by rw [← gn]; exact f2 _ (.of (sj _ _ hc))⟩
end
end UP

set_option Elab.async false
set_option linter.all false
set_option maxRecDepth 100000
set_option maxHeartbeats 4000000
/-! targets over a list, while an exception is handled -/
namespace UPH
open PySem PySem.Spec PyProof.Rows L2 HotX L2H
section
variable {prog : Program} {w : World} {A : Around} {E : Value → Shared → Prop} {s : Shared}
theorem unpack_lst_hot {l x1 : Addr} {vals : Array Value} {Q : List Value → Shared → Prop} (hot : HotAt A x1 s.heap) (pl : s.heap.IsList l vals)
    (hQ : ∀ h', Heap.ExtBut s.heap.objs.size s.heap h' → Q vals.toList { s with heap := h' }) : wpAny (model prog w) A (unpackItems (.ref l) vals.size none) Q E s := by
  obtain ⟨hh, o1, vs1, h1, d1, c1⟩ := hot
  have n1 : x1 ≠ s.heap.objs.size := Nat.ne_of_lt (Heap.lt_size h1)
  have nl : l ≠ s.heap.objs.size := by
    obtain ⟨o, e, _⟩ := pl
    exact Nat.ne_of_lt (Heap.lt_size e)
  unfold unpackItems
  refine wpAny_bind ?_
  unfold notIterableAtAll
  refine wpAny_bind (wpAny_specialOf pl.typeIs slot_list_iter.lookup (wpAny_pure ?_))
  simp only [Bool.false_eq_true, if_false]
  refine wpAny_bind (wpAny_holding (wpAny_pyIter_list pl ?_))
  refine wpAny_bind (wpAny_holding (PySem.W.kun_draw nl vals.size 0 _ _ ⟨_, Heap.get?_push_size _ rfl, rfl, rfl⟩ (pl.push _) (by omega) fun h₁ z₁ b₁ => ?_))
  rw [show List.take vals.size (List.drop 0 vals.toList) = vals.toList by rw [List.drop_zero]; exact List.take_of_length_le (by simp), if_neg (by simp)]
  have t₁ : h₁.get? x1 = some o1 := b₁.extBut _ _ n1 (Heap.get?_push_of_some _ h1)
  refine wpAny_bind (wpAny_holding (next_list_end_hot ⟨hh, o1, vs1, t₁, d1, c1⟩ n1 z₁ ((pl.push _).extBut b₁.extBut nl) (by simp) fun h₂ b₂ => ?_))
  simp only [Option.isSome_none, Bool.false_eq_true, if_false]
  exact wpAny_pure (hQ h₂ fun b o hb e => b₂ b o hb (b₁.extBut b o hb (Heap.get?_push_of_some _ e)))
end
section
variable {X : Cx}
theorem pg_unlH {es : List Expr} {k : Nat} {t : TGs} {n : Nat} {pos : Pos} (hc : HotC X) (h : PGs X es t)
    (hn : (assignEach es X.env).length = n := by rfl) (hst : (assignEach es X.env).findIdx? (·.1) = none := by rfl) : PG X (.Tuple es k pos) (gUnl X.K n t) := by
  refine ⟨fun pins s σ H v u Q J r hw => ?_⟩
  obtain ⟨a, xs, rfl, hq, hl, hw⟩ := hw
  cases r
  obtain ⟨vals, rel, pl, _⟩ := J.list hq
  obtain ⟨x1, hot⟩ := hc.at J
  have len : (assignEach es X.env).length = vals.toArray.size := hn.trans (hl.symm.trans (rel.length.trans (by simp)))
  rw [PyProof.Rows.assign_Tuple]
  refine wpAny_bind (wpAny_standAt ?_)
  unfold unpack
  rw [len, hst]
  refine wpAny_bind (wpAny_holding (unpack_lst_hot hot pl.isList fun h' hx => ?_))
  exact h.run pins _ σ H xs _ Q (J.kept (t' := s.toks) fun b o e => hx b o (Nat.ne_of_lt (Heap.lt_size e)) e) (by simpa using rel) hw
end
end UPH
namespace UP
open PySem PySem.Spec PyProof.Rows L2 HotX L2H UPH
section
variable {X : Cx}
theorem pg_anyH {es : List Expr} {k n : Nat} {t : TGs} {pos : Pos} (hc : HotC X) (h : PGs X es t) (hn : (assignEach es X.env).length = n := by rfl) (hst : (assignEach es X.env).findIdx? (fun z => z.1) = none := by rfl) : PG X (.Tuple es k pos) (gAny n t) := by
  refine ⟨fun pins s σ H v u Q J r hw => ?_⟩
  obtain ⟨a, xs, e, hx, hl, hw⟩ := hw
  rcases hx with z | z
  · exact (pg_unlH hc h hn hst).run pins s σ H v u Q J r ⟨a, xs, e, .of z, hl, hw⟩
  · exact (pg_tupH hc h hn hst).run pins s σ H v u Q J r ⟨a, xs, e, .of z, hl, hw⟩
end
end UP

set_option Elab.async false
set_option linter.all false
set_option maxRecDepth 100000
set_option maxHeartbeats 4000000
/-! max(i, j) while an exception is handled -/
namespace UPH
open PySem PySem.Spec PyProof.Rows L2 HotX L2H
theorem walks_tupH {prog : Program} {w : World} {A : Around} {x1 : Addr} {o1 : Obj} {vs1 : Array Value} (hh : A.handled = some (.ref x1)) (d1 : o1.data = .fields vs1) (c1 : vs1[2]? = some .none) (it ax : Addr) (ne : ax ≠ it) (n1 : x1 ≠ it) (vals : Array Value) :
    Walks prog w A it [it, ax, x1] [it] vals.size (fun i v => vals[i]? = some v) (fun i h => h.IsTupleIter it ax i ∧ h.IsTuple ax vals ∧ h.get? x1 = some o1) where
  sub := fun b hb => by
    rw [List.mem_singleton.mp hb]
    exact List.mem_cons_self ..
  frame := fun _ _ _ z kp => ⟨z.1.at fun o e => kp it (by simp) o e, z.2.1.at fun o e => kp ax (by simp) o e, kp x1 (by simp) _ z.2.2⟩
  item := fun i s Q E hi z hQ => by
    refine wpAny_pyNext_tuple_item z.1 z.2.1 (x := vals[i]) (by simp [hi]) fun h' z' sb => ?_
    refine hQ _ h' s.toks (by simp [hi]) ⟨z', z.2.1.extBut sb.extBut ne, (sb.2 _ n1).trans z.2.2⟩ fun b o hb e => ?_
    exact sb.extBut b o (fun h => hb (by simp [h])) e
  done := fun s Q E z hQ => next_tuple_end_hot ⟨hh, o1, vs1, z.2.2, d1, c1⟩ n1 z.1 (show IsTup s.heap ax vals from z.2.1) (by simp) fun h' eb => hQ h' s.toks fun b o hb e => eb b o (fun h => hb (by simp [h])) e
  self := fun _ _ _ _ z hQ => wpAny_pyIter_tupleiter z.1 hQ
section
variable {prog : Program} {w : World} {A : Around} {E : Value → Shared → Prop} {s : Shared}
theorem max_two_hot {x1 : Addr} {a b : Int} {t u : Tok} {Q : Value → Shared → Prop} (hot : HotAt A x1 s.heap)
    (h : ∀ h' tk, (∀ c o, s.heap.get? c = some o → h'.get? c = some o) → Q (if b > a then .int b u else .int a t) { s with heap := h', toks := tk }) :
    wpAny (model prog w) A (call (.builtin "max") [.int a t, .int b u]) Q E s := by
  obtain ⟨hh, o1, vs1, h1, d1, c1⟩ := hot
  have tup : (s.heap.push { cls := .type "tuple", data := .seq #[.int a t, .int b u] }).IsTuple s.heap.objs.size (intItems #[(a, t), (b, u)]) := ⟨_, Heap.get?_push_size _ rfl, rfl, 0, by simp [intItems]⟩
  have size : (s.heap.push { cls := .type "tuple", data := .seq #[.int a t, .int b u] }).objs.size = s.heap.objs.size + 1 := Heap.size_push ..
  have l1 : x1 < s.heap.objs.size := Heap.lt_size h1
  refine call_max_two (wpAny_pyIter_tuple tup ?_)
  refine ⟨_, _, _, _, _, _, _, rfl, walks_tupH (A := A.in1) hh d1 c1 _ s.heap.objs.size (by rw [size]; exact Nat.ne_of_lt (Nat.lt_succ_self _)) (by rw [size]; exact Nat.ne_of_lt (Nat.lt_succ_of_lt l1)) (intItems #[(a, t), (b, u)]),
    ⟨⟨_, Heap.get?_push_size _ rfl, rfl, rfl⟩, tup.push _, Heap.get?_push_of_some _ (Heap.get?_push_of_some _ h1)⟩, fun c hc => ?_, by simp [intItems], CmpOf.ints_gt (numAt #[(a, t), (b, u)]) (fun _ _ => intItems_at), fun v h' tk hP hk => ?_⟩
  · show c < ((s.heap.push _).push _).objs.size
    rw [Heap.size_push, size]
    simp only [List.mem_cons, List.not_mem_nil, or_false] at hc
    rcases hc with rfl | rfl | rfl
    · rw [size]; exact Nat.lt_succ_self _
    · exact Nat.lt_succ_of_lt (Nat.lt_succ_self _)
    · exact Nat.lt_succ_of_lt (Nat.lt_succ_of_lt l1)
  · have old : ∀ c o, s.heap.get? c = some o → h'.get? c = some o := fun c o e => by
      refine hk c o (fun m => ?_) (Heap.get?_push_of_some _ (Heap.get?_push_of_some _ e))
      have := Heap.lt_size e
      rw [List.mem_singleton.mp m, size] at this
      exact Nat.lt_irrefl _ (Nat.lt_of_succ_lt this)
    have q := h h' tk old
    have got : (intItems #[(a, t), (b, u)])[argBest (fun i j => decide (numAt #[(a, t), (b, u)] i > numAt #[(a, t), (b, u)] j)) 1]? = some v := by
      have two : (intItems #[(a, t), (b, u)]).size - 1 = 1 := by simp [intItems]
      rw [← two]
      exact hP
    have ev : v = if b > a then Value.int b u else Value.int a t := by
      by_cases c : b > a
      · rw [show argBest (fun i j => decide (numAt #[(a, t), (b, u)] i > numAt #[(a, t), (b, u)] j)) 1 = 1 by simp [argBest, numAt, c]] at got
        simpa [intItems, c] using got.symm
      · rw [show argBest (fun i j => decide (numAt #[(a, t), (b, u)] i > numAt #[(a, t), (b, u)] j)) 1 = 0 by simp [argBest, numAt, c]] at got
        simpa [intItems, c] using got.symm
    rw [ev]
    exact q
end
section
variable {X : Cx}
theorem call_max2H (hot : HotC X) : CallR X (.builtin "max") (fun xs H Q => ∃ i j, xs = [.int i, .int j] ∧ Q (.int (if j > i then j else i)) H) := by
  intro pins s σ H xs us Q J r h
  obtain ⟨i, j, rfl, q⟩ := h
  obtain ⟨u, v, rfl, ⟨t, rfl⟩, ⟨t', rfl⟩⟩ := vals2 r
  obtain ⟨x1, hx⟩ := hot.at J
  refine max_two_hot hx fun h' tk k => ⟨_, H, J.kept k, ?_, q⟩
  by_cases c : j > i
  · rw [if_pos c, if_pos c]
    exact ⟨_, rfl⟩
  · rw [if_neg c, if_neg c]
    exact ⟨_, rfl⟩
theorem cr_allHK {K : PySem.W.Frag} (h : X.K = K) (hot : HotC X) : CallR X (.builtin "all") (rAll K) := h ▸ cr_allH hot
end
end UPH

set_option Elab.async false
set_option linter.all false
set_option maxRecDepth 100000
set_option maxHeartbeats 4000000
namespace UP
open PySem PySem.Spec PyProof.Rows L2 HotX L2H UPH
theorem pg_tupHK {X : Cx} {K : PySem.W.Frag} {es : List Expr} {k : Nat} {t : TGs} {n : Nat} {pos : Pos} (h : X.K = K) (hc : HotC X) (hp : PGs X es t)
    (hn : (assignEach es X.env).length = n := by rfl) (hst : (assignEach es X.env).findIdx? (fun z => z.1) = none := by rfl) : PG X (.Tuple es k pos) (gTup K n t) := by
  subst h
  exact pg_tupH hc hp hn hst
end UP

set_option Elab.async false
set_option linter.all false
set_option maxRecDepth 100000
set_option maxHeartbeats 4000000
set_option pp.maxSteps 400
namespace UP
open PySem PySem.Spec PyProof.Rows L2 HotX L2H UPH
section
variable {P : Program} {w : World} {K : PySem.W.Frag} {mg : Str → Option Value} {base : Heap}
theorem okH_is_listed (D : Df K mg "is_listed" s_is_listed) (T : Tx mg) : HasH P w K mg base 1 "is_listed" ["value", "most"] sp_is_listed := by
  refine hasH_of D sc_is_listed (fun _ _ _ _ _ _ us hl => match us, hl with | [_, _], _ => rfl) (fun vs H Q E h => ?_) (fun f cdv A outer s H vs Q E pE hotE hr h => ?_)
  · obtain ⟨a, xs, m, rfl, _⟩ := h
    rfl
  · obtain ⟨a, xs, m, rfl, hx, q⟩ := h
    refine ⟨_, (pss_one (ps_ret (pe_and (pe_callB call_isiT (by rfl) T.n_isinstance (by decide +kernel) (pa_cons (pv 0) (pa_cons (pe_tup (pa_cons (pe_bltn (v := .ty "list") (by rfl) T.n_list (by decide +kernel) rfl) (pa_cons (pe_bltn (v := .ty "tuple") (by rfl) T.n_tuple (by decide +kernel) rfl) pa_nil))) pa_nil))) (pe_one (pe_cmpR op_le (pe_callB call_len_seq (by rfl) T.n_len (by decide +kernel) (pa_cons (pv 0) pa_nil)) (pv 1) (nomark _)))))), ?_⟩
    refine ⟨_, rfl, (by show 2 ≤ sizeLine; decide), fun t nt => ?_⟩
    rcases hx with hx | hx
    · refine ⟨_, t, _, _, _, true, rfl, upd_same, .cons (.ty "list") (.cons (.ty "tuple") .nil), .base (.lst (same_upd nt _ _ hx)), kit_lst, true, rfl, iteT ?_⟩
      exact ⟨_, rfl, _, _, rfl, .inl (.of (same_upd nt _ _ hx)), _, rfl, _, _, rfl, rfl, q _ (same_upd nt)⟩
    · refine ⟨_, t, _, _, _, true, rfl, upd_same, .cons (.ty "list") (.cons (.ty "tuple") .nil), .base (.tup (same_upd nt _ _ hx)), kit_tup, true, rfl, iteT ?_⟩
      exact ⟨_, rfl, _, _, rfl, .inr (.of (same_upd nt _ _ hx)), _, rfl, _, _, rfl, rfl, q _ (same_upd nt)⟩
theorem okH_is_couple (D : Df K mg "is_couple" s_is_couple) (T : Tx mg) : HasH P w K mg base 1 "is_couple" ["value"] sp_is_couple := by
  refine hasH_of D sc_is_couple (fun _ _ _ _ _ _ us hl => match us, hl with | [_], _ => rfl) (fun vs H Q E h => ?_) (fun f cdv A outer s H vs Q E pE hotE hr h => ?_)
  · obtain ⟨a, xs, rfl, _⟩ := h
    rfl
  · obtain ⟨a, xs, rfl, hx, hl, q⟩ := h
    refine ⟨_, (pss_one (ps_ret (pe_and (pe_callB call_isiT (by rfl) T.n_isinstance (by decide +kernel) (pa_cons (pv 0) (pa_cons (pe_tup (pa_cons (pe_bltn (v := .ty "list") (by rfl) T.n_list (by decide +kernel) rfl) (pa_cons (pe_bltn (v := .ty "tuple") (by rfl) T.n_tuple (by decide +kernel) rfl) pa_nil))) pa_nil))) (pe_one (pe_cmpR op_eq (pe_callB call_len_seq (by rfl) T.n_len (by decide +kernel) (pa_cons (pv 0) pa_nil)) pe_int (nomark _)))))), ?_⟩
    refine ⟨_, rfl, (by show 2 ≤ sizeLine; decide), fun t nt => ?_⟩
    rcases hx with hx | hx
    · refine ⟨_, t, _, _, _, true, rfl, upd_same, .cons (.ty "list") (.cons (.ty "tuple") .nil), .base (.lst (same_upd nt _ _ hx)), kit_lst, true, rfl, iteT ⟨_, rfl, _, _, rfl, .inl (.of (same_upd nt _ _ hx)), rfl, ?_⟩⟩
      rw [hl]
      exact q _ (same_upd nt)
    · refine ⟨_, t, _, _, _, true, rfl, upd_same, .cons (.ty "list") (.cons (.ty "tuple") .nil), .base (.tup (same_upd nt _ _ hx)), kit_tup, true, rfl, iteT ⟨_, rfl, _, _, rfl, .inr (.of (same_upd nt _ _ hx)), rfl, ?_⟩⟩
      rw [hl]
      exact q _ (same_upd nt)
theorem okH_is_kind (D : Df K mg "is_kind" s_is_kind) (T : Tx mg) : HasH P w K mg base 1 "is_kind" ["value"] sp_is_kind := by
  refine hasH_of D sc_is_kind (fun _ _ _ _ _ _ us hl => match us, hl with | [_], _ => rfl) (fun vs H Q E h => ?_) (fun f cdv A outer s H vs Q E pE hotE hr h => ?_)
  · obtain ⟨n, rfl, _⟩ := h
    rfl
  · obtain ⟨z, rfl, ⟨k1, k2, k3⟩, q⟩ := h
    refine ⟨_, (pss_cons (ps_if (PW.pt (pw_or (pt_not (pt_val (pe_callB call_isi (by rfl) T.n_isinstance (by decide +kernel) (pa_cons (pv 0) (pa_cons (pe_bltn (v := .ty "str") (by rfl) T.n_str (by decide +kernel) rfl) pa_nil))))) (pw_or1 (pt_not (pt_chain op_le op_le pe_int (pe_callB call_len_str (by rfl) T.n_len (by decide +kernel) (pa_cons (pv 0) pa_nil)) (pe_glI T.c_MAX_LETTERS (by rfl))))))) (pss_one (ps_ret pe_bl)) pss_nil)
    (pss_one (ps_ret (pe_callB (cr_allH ⟨pE, hotE, List.mem_singleton.mpr rfl⟩) (by rfl) T.n_all (by decide +kernel) (pa_cons (pe_lcHI (own := [("letter", 1)]) ⟨pE, hotE, List.mem_singleton.mpr rfl⟩ sc_is_kind.nd (pi_txtH (pv 0)) (blkOk_by (N := ["value", "letter"]) (sc := defScope s_is_kind) (by decide +kernel)) (fun _ _ _ _ _ pE hotE => (pg_name (i := 1) sc_is_kind.nd rfl (by first | exact Or.inl rfl | exact Or.inr rfl))) (fun _ _ _ _ _ pE hotE => pts_nil) (fun _ _ _ _ _ pE hotE => (pe_chain op_le_str op_le_str pe_str (pv 1) pe_str))) pa_nil))))), ?_⟩
    refine ⟨_, rfl, _, _, _, _, true, rfl, .ty "str", .base (.str z), kit_ty (by decide +kernel), true, rfl, iteF ?_⟩
    refine ⟨_, rfl, z, rfl, smallE (by omega), _, _, rfl, rfl, _, rfl, iteP (decide_eq_true (by omega)) ⟨_, _, rfl, rfl, _, rfl, iteN ?_ ?_⟩⟩
    · show (!decide ((z.length : Int) ≤ 8)) = false
      rw [decide_eq_true (by omega)]
      rfl
    refine ⟨_, rfl, z, rfl, fun L nL => lc_gen (n := z.cps.size) (fun i H' => Same H H' ∧ H' L = some (.lst ((List.replicate i true).map V.bl))) ⟨same_upd nL, upd_same⟩ (fun i H' hi _ => hi) (fun H' _ => Nat.le_refl _) (fun i x H1 H2 hi p y => ?_) (fun H' p => ?_)⟩
    · obtain ⟨rfl, c, ec, rfl⟩ := y
      obtain ⟨sm, hL⟩ := p
      have hc : 97 ≤ c ∧ c ≤ 122 := k3 c (by
        have := Array.mem_of_getElem? ec
        simpa using this)
      have ea : ("a" : Str).cps.toList = [97] := by decide +kernel
      have ez : ("z" : Str).cps.toList = [122] := by decide +kernel
      refine ⟨rfl, yesT ⟨_, rfl, _, _, rfl, rfl, _, rfl, iteP ?_ ⟨_, _, rfl, rfl, _, hL, ?_, ?_, ?_⟩⟩⟩
      · show (!decide (([c] : List Nat) < ("a" : Str).cps.toList)) = true
        rw [ea, lex1]
        exact decide_eq_true hc.1
      · simp only [List.length_map, List.length_replicate]
        exact small (by have : z.cps.size = z.length := rfl; omega)
      · intro b o e
        have nb : b ≠ L := ne_of_none e nL
        rw [upd_ne nb]
        exact sm b o e
      · rw [upd_same]
        have e1 : (!decide ((("z" : Str).cps.toList) < ([c] : List Nat))) = true := by
          rw [ez, lex1]
          exact decide_eq_true hc.2
        show some (HO.lst ((List.replicate i true).map V.bl ++ [V.bl (!decide ((("z" : Str).cps.toList) < ([c] : List Nat)))])) = _
        rw [e1, List.replicate_succ', List.map_append]
        rfl
    · refine ⟨L, _, rfl, .of p.2, ?_⟩
      have e : ((List.replicate z.cps.size true).all id) = true := by simp
      rw [e]
      exact q H' p.1
theorem okH_is_entry (D : Df K mg "is_entry" s_is_entry) (T : Tx mg) (G_is_couple : HasH P w K mg base 1 "is_couple" ["value"] sp_is_couple) (G_is_kind : HasH P w K mg base 1 "is_kind" ["value"] sp_is_kind) : HasH P w K mg base 2 "is_entry" ["value"] sp_is_entry := by
  refine hasH_of D sc_is_entry (fun _ _ _ _ _ _ us hl => match us, hl with | [_], _ => rfl) (fun vs H Q E h => ?_) (fun f cdv A outer s H vs Q E pE hotE hr h => ?_)
  · obtain ⟨v, r, rfl, _⟩ := h
    rfl
  · obtain ⟨v, e, rfl, ⟨t, rfl, ht⟩, ok, q⟩ := h
    refine ⟨_, (pss_cons (ps_if (PW.pt (pw_or (pt_not (pt_val (pe_callHot G_is_couple (hr.mono (by omega)) ⟨pE, hotE, List.mem_singleton.mpr rfl⟩ (by rfl) (pa_cons (pv 0) pa_nil)))) (pw_or1 (pt_not (pt_val (pe_callB call_isi (by rfl) T.n_isinstance (by decide +kernel) (pa_cons (pe_ix ix_seq (pv 0) pe_int (fun _ _ => rfl)) (pa_cons (pe_bltn (v := .ty "str") (by rfl) T.n_str (by decide +kernel) rfl) pa_nil)))))))) (pss_one (ps_ret pe_bl)) pss_nil)
    (pss_one (ps_ret (pe_and (pe_or (pe_cmpR op_isN (pe_ix ix_seq (pv 0) pe_int (fun _ _ => rfl)) pe_non (nomark _)) (pe_one (pe_callHot G_is_kind (hr.mono (by omega)) ⟨pE, hotE, List.mem_singleton.mpr rfl⟩ (by rfl) (pa_cons (pe_ix ix_seq (pv 0) pe_int (fun _ _ => rfl)) pa_nil)))) (pe_one (pe_cmpR op_in_seq (pe_ix ix_seq (pv 0) pe_int (fun _ _ => rfl)) (pe_tup (pa_cons pe_str (pa_cons pe_str pa_nil))) (by with_unfolding_all rfl))))))), ?_⟩
    refine ⟨_, rfl, t, _, rfl, ht, rfl, fun H1 s1 => ⟨true, rfl, iteN rfl ?_⟩⟩
    refine ⟨_, rfl, ix1 (ht.same s1) ⟨_, _, _, _, true, rfl, .ty "str", .base (.str _), kit_ty (by decide +kernel), true, rfl, iteF ?_⟩⟩
    have ht1 := ht.same s1
    obtain ⟨k, b⟩ := e
    have fin : ∀ H2 t2, Same H H2 → H2 t2 = none → Q (.bl (inV (.str (actS b)) [.str "waits", .str "leaves"])) (upd H2 t2 (.tup [.str "waits", .str "leaves"])) := fun H2 t2 s2 n2 => by
      rw [act_in]
      exact q _ (s2.trans (same_upd n2))
    cases k with
    | none =>
      refine ⟨_, rfl, ix0 ht1 ⟨rfl, true, rfl, iteT ?_⟩⟩
      exact ⟨true, rfl, iteT ⟨_, rfl, ix1 ht1 ⟨(by show 2 ≤ sizeLine; decide), fun t2 n2 => ⟨t2, _, rfl, .inr (.of upd_same), rfl, rfl, fin _ t2 s1 n2⟩⟩⟩⟩
    | some k =>
      refine ⟨_, rfl, ix0 ht1 ⟨rfl, false, rfl, iteF ?_⟩⟩
      refine ⟨_, rfl, ix0 ht1 ⟨k, rfl, ok k rfl, fun H2 s2 => ⟨true, rfl, iteT ?_⟩⟩⟩
      exact ⟨_, rfl, ix1 (ht1.same s2) ⟨(by show 2 ≤ sizeLine; decide), fun t2 n2 => ⟨t2, _, rfl, .inr (.of upd_same), rfl, rfl, fin _ t2 (s1.trans s2) n2⟩⟩⟩
theorem okH_is_record (D : Df K mg "is_record" s_is_record) (T : Tx mg) (G_is_listed : HasH P w K mg base 1 "is_listed" ["value", "most"] sp_is_listed) (G_is_entry : HasH P w K mg base 2 "is_entry" ["value"] sp_is_entry) : HasH P w K mg base 3 "is_record" ["value"] sp_is_record := by
  refine hasH_of D sc_is_record (fun _ _ _ _ _ _ us hl => match us, hl with | [_], _ => rfl) (fun vs H Q E h => ?_) (fun f cdv A outer s H vs Q E pE hotE hr h => ?_)
  · obtain ⟨v, r, rfl, _⟩ := h
    rfl
  · obtain ⟨v, es, rfl, ⟨a, xs, rfl, hx, hp⟩, ok, l4, q⟩ := h
    have lx : xs.length = es.length := Paired.len hp
    refine ⟨_, (pss_one (ps_ret (pe_and (pe_callHot G_is_listed (hr.mono (by omega)) ⟨pE, hotE, List.mem_singleton.mpr rfl⟩ (by rfl) (pa_cons (pv 0) (pa_cons (pe_glI T.c_MAX_ENTRIES (by rfl)) pa_nil))) (pe_one (pe_callB (cr_allH ⟨pE, hotE, List.mem_singleton.mpr rfl⟩) (by rfl) T.n_all (by decide +kernel) (pa_cons (pe_lcHI (own := [("entry", 1)]) ⟨pE, hotE, List.mem_singleton.mpr rfl⟩ sc_is_record.nd (pi_seqVH 0) (blkOk_by (N := ["value", "entry"]) (sc := defScope s_is_record) (by decide +kernel)) (fun _ _ _ _ _ pE hotE => (pg_name (i := 1) sc_is_record.nd rfl (by first | exact Or.inl rfl | exact Or.inr rfl))) (fun _ _ _ _ _ pE hotE => pts_nil) (fun _ _ _ _ _ pE hotE => (pe_callHot G_is_entry (hr.mono (by omega)) ⟨pE, hotE, List.mem_singleton.mpr rfl⟩ (by rfl) (pa_cons (pv 1) pa_nil)))) pa_nil)))))), ?_⟩
    refine ⟨_, rfl, a, xs, 400, rfl, hx, fun H1 s1 => ?_⟩
    rw [decide_eq_true (show (xs.length : Int) ≤ 400 by omega)]
    refine ⟨true, rfl, iteT ?_⟩
    refine ⟨a, xs, rfl, hx.same s1, fun J wk L nL => lc_wk wk (fun i H' => Same H1 H' ∧ H' L = some (.lst ((List.replicate i true).map V.bl))) (fun _ _ p => p.1) ⟨same_upd nL, upd_same⟩ (fun i x H2 ex p => ?_) (fun H2 p => ?_)⟩
    · obtain ⟨sm, hL⟩ := p
      obtain ⟨r, er, hr1⟩ := Paired.at hp ex
      have hi : i < xs.length := (List.getElem?_eq_some_iff.mp ex).1
      refine ⟨rfl, yesT ⟨_, rfl, x, r, rfl, EnG.same (s1.trans sm) hr1, ok r (List.mem_of_getElem? er), fun H3 s3 => ⟨_, s3 _ _ hL, ?_, same_grow nL (sm.trans s3), ?_⟩⟩⟩
      · simp only [List.length_map, List.length_replicate]
        exact small (by omega)
      · rw [upd_same, List.replicate_succ', List.map_append]
        rfl
    · refine ⟨L, _, rfl, .of p.2, ?_⟩
      rw [all_rep]
      exact q _ (s1.trans p.1)
theorem okH_is_kinds (D : Df K mg "is_kinds" s_is_kinds) (T : Tx mg) (G_is_listed : HasH P w K mg base 1 "is_listed" ["value", "most"] sp_is_listed) (G_is_kind : HasH P w K mg base 1 "is_kind" ["value"] sp_is_kind) : HasH P w K mg base 2 "is_kinds" ["value"] sp_is_kinds := by
  refine hasH_of D sc_is_kinds (fun _ _ _ _ _ _ us hl => match us, hl with | [_], _ => rfl) (fun vs H Q E h => ?_) (fun f cdv A outer s H vs Q E pE hotE hr h => ?_)
  · obtain ⟨v, r, rfl, _⟩ := h
    rfl
  · obtain ⟨a, ks, rfl, hx, ⟨l0, l1, okk, asc⟩, q⟩ := h
    refine ⟨_, (pss_cons (ps_if (PW.pt (pw_or (pt_not (pt_val (pe_callHot G_is_listed (hr.mono (by omega)) ⟨pE, hotE, List.mem_singleton.mpr rfl⟩ (by rfl) (pa_cons (pv 0) (pa_cons (pe_glI T.c_MAX_KINDS (by rfl)) pa_nil))))) (pw_or (pt_cmpR op_eq (pe_callB call_len_seq (by rfl) T.n_len (by decide +kernel) (pa_cons (pv 0) pa_nil)) pe_int (nomark _)) (pw_or1 (pt_not (pt_val (pe_callB (cr_allH ⟨pE, hotE, List.mem_singleton.mpr rfl⟩) (by rfl) T.n_all (by decide +kernel) (pa_cons (pe_lcHI (own := [("kind", 1)]) ⟨pE, hotE, List.mem_singleton.mpr rfl⟩ sc_is_kinds.nd (pi_seqVH 0) (blkOk_by (N := ["value", "kind", "following"]) (sc := defScope s_is_kinds) (by decide +kernel)) (fun _ _ _ _ _ pE hotE => (pg_name (i := 1) sc_is_kinds.nd rfl (by first | exact Or.inl rfl | exact Or.inr rfl))) (fun _ _ _ _ _ pE hotE => pts_nil) (fun _ _ _ _ _ pE hotE => (pe_callHot G_is_kind (hr.mono (by omega)) ⟨pE, hotE, List.mem_singleton.mpr rfl⟩ (by rfl) (pa_cons (pv 1) pa_nil)))) pa_nil)))))))) (pss_one (ps_ret pe_bl)) pss_nil)
    (pss_one (ps_ret (pe_callB (cr_allH ⟨pE, hotE, List.mem_singleton.mpr rfl⟩) (by rfl) T.n_all (by decide +kernel) (pa_cons (pe_lcHI (own := [("kind", 1), ("following", 2)]) ⟨pE, hotE, List.mem_singleton.mpr rfl⟩ sc_is_kinds.nd (pi_zip1H (i := 0) (pi_zipAH (by rfl) T.n_zip (pa_cons (pv 0) (pa_cons (pe_slice (SlR.or sl_list sl_tupA) (pv 0) (po_some pe_int) po_none) pa_nil))) (fun _ _ _ q => ⟨1, rfl, q⟩) (fun _ _ _ q => q)) (blkOk_by (N := ["value", "kind", "following"]) (sc := defScope s_is_kinds) (by decide +kernel)) (fun _ _ _ _ _ pE hotE => (pg_tupHK (K := K) (n := 2) rfl ⟨pE, hotE, List.mem_singleton.mpr rfl⟩ (pgs_cons (pg_name (i := 1) sc_is_kinds.nd rfl (by first | exact Or.inl rfl | exact Or.inr rfl)) (pgs_cons (pg_name (i := 2) sc_is_kinds.nd rfl (by first | exact Or.inl rfl | exact Or.inr rfl)) pgs_nil)))) (fun _ _ _ _ _ pE hotE => pts_nil) (fun _ _ _ _ _ pE hotE => (pe_cmpR op_lt_str (pv 1) (pv 2) (nomark _)))) pa_nil))))), ?_⟩
    refine ⟨_, rfl, a, _, 12, rfl, hx, fun H1 s1 => ⟨_, rfl, iteN ?_ ?_⟩⟩
    · show (!decide (((ks.map V.str).length : Int) ≤ 12)) = false
      rw [List.length_map, decide_eq_true (by omega)]
      rfl
    refine ⟨_, rfl, a, _, rfl, (hx.same s1).elim (fun z => .inl (.of z)) (fun z => .inr (.of z)), rfl, _, rfl, iteN ?_ ?_⟩
    · refine decide_eq_false fun z => ?_
      have z := V.int.inj z
      rw [List.length_map] at z
      omega
    refine ⟨a, _, rfl, hx.same s1, fun J wk L nL => lc_wk wk (fun i H' => Same H1 H' ∧ H' L = some (.lst ((List.replicate i true).map V.bl))) (fun _ _ p => p.1) ⟨same_upd nL, upd_same⟩ (fun i x H2 ex p => ?_) (fun H2 p => ?_)⟩
    · obtain ⟨sm, hL⟩ := p
      obtain ⟨k, ek, rfl⟩ := str_at ex
      have hi : i < ks.length := (List.getElem?_eq_some_iff.mp ek).1
      refine ⟨rfl, yesT ⟨_, rfl, k, rfl, okk k (List.mem_of_getElem? ek), fun H3 s3 => ⟨_, s3 _ _ hL, ?_, same_grow nL (sm.trans s3), ?_⟩⟩⟩
      · simp only [List.length_map, List.length_replicate]
        exact small (by omega)
      · rw [upd_same, List.replicate_succ', List.map_append]
        rfl
    · refine ⟨L, _, rfl, .of p.2, _, rfl, iteN ?_ ?_⟩
      · rw [all_rep]
        rfl
      have s2 : Same H H2 := s1.trans p.1
      refine ⟨a, _, rfl, hx.same s2, fun J Hc sc wk M nM => ?_⟩
      have sA : Same H Hc := s2.trans sc
      refine lc_gen (n := (ks.map V.str).length - 1) (fun i H' => Same Hc H' ∧ H' M = some (.lst ((List.replicate i true).map V.bl))) ⟨same_upd nM, upd_same⟩ (fun i H' hi p => wk.go i H' p.1 (by omega)) (fun H' p => wk.stop H' p.1) (fun i x H3 H4 hi p y => ?_) (fun H' p => ?_)
      · obtain ⟨T', x1, x2, rfl, nT, rfl, g1, g2⟩ := wk.yld i x H3 H4 p.1 y
        obtain ⟨sm, hM⟩ := p
        have g2 := g2 (by omega)
        obtain ⟨k1, e1, rfl⟩ := str_at g1
        obtain ⟨k2, e2, rfl⟩ := str_at g2
        have hi2 : i < ks.length := (List.getElem?_eq_some_iff.mp e1).1
        refine ⟨T', _, rfl, .of upd_same, rfl, _, _, rfl, _, _, rfl, rfl, rfl, yesT ?_⟩
        refine ⟨_, rfl, _, rfl, _, _, rfl, rfl, _, same_upd nT _ _ hM, ?_, same_grow nM (sm.trans (same_upd nT)), ?_⟩
        · simp only [List.length_map, List.length_replicate]
          exact small (by omega)
        · rw [upd_same, List.replicate_succ', List.map_append, decide_eq_true (asc i k1 k2 e1 e2)]
          rfl
      · refine ⟨M, _, rfl, .of p.2, ?_⟩
        rw [all_rep]
        exact q _ (sA.trans p.1)
theorem okH_check_kinds (D : Df K mg "check_kinds" s_check_kinds) (G_is_kinds : HasH P w K mg base 2 "is_kinds" ["value"] sp_is_kinds) : HasH P w K mg base 3 "check_kinds" ["kinds"] sp_check_kinds := by
  refine hasH_of D sc_check_kinds (fun _ _ _ _ _ _ us hl => match us, hl with | [_], _ => rfl) (fun vs H Q E h => ?_) (fun f cdv A outer s H vs Q E pE hotE hr h => ?_)
  · obtain ⟨v, r, rfl, _⟩ := h
    rfl
  · obtain ⟨a, ks, rfl, hx, ok, q⟩ := h
    refine ⟨_, (pss_one (ps_if (pt_not (pt_val (pe_callHot G_is_kinds (hr.mono (by omega)) ⟨pE, hotE, List.mem_singleton.mpr rfl⟩ (by rfl) (pa_cons (pv 0) pa_nil)))) (pss_one ps_never) pss_nil)), ?_⟩
    exact ⟨_, rfl, a, ks, rfl, hx, ok, fun H1 s1 => ⟨_, rfl, iteF (q _ s1)⟩⟩
theorem okH_checked_entries (D : Df K mg "checked_entries" s_checked_entries) (T : Tx mg) (G_check_kinds : HasH P w K mg base 3 "check_kinds" ["kinds"] sp_check_kinds) (G_is_record : HasH P w K mg base 3 "is_record" ["value"] sp_is_record) : HasH P w K mg base 4 "checked_entries" ["kinds", "record"] sp_checked_entries := by
  refine hasH_of D sc_checked_entries (fun _ _ _ _ _ _ us hl => match us, hl with | [_, _], _ => rfl) (fun vs H Q E h => ?_) (fun f cdv A outer s H vs Q E pE hotE hr h => ?_)
  · obtain ⟨_, _, _, _, rfl, _⟩ := h
    rfl
  · obtain ⟨a, v, ks, es, rfl, ha, kso, hv, ink, l4, q⟩ := h
    refine ⟨_, (pss_cons (ps_expr (pe_callHot G_check_kinds (hr.mono (by omega)) ⟨pE, hotE, List.mem_singleton.mpr rfl⟩ (by rfl) (pa_cons (pv 0) pa_nil)))
    (pss_cons (ps_if (pt_not (pt_val (pe_callHot G_is_record (hr.mono (by omega)) ⟨pE, hotE, List.mem_singleton.mpr rfl⟩ (by rfl) (pa_cons (pv 1) pa_nil)))) (pss_one ps_never) pss_nil)
    (pss_cons (ps_if (pt_not (pt_val (pe_callB (cr_allH ⟨pE, hotE, List.mem_singleton.mpr rfl⟩) (by rfl) T.n_all (by decide +kernel) (pa_cons (pe_lcHI (own := [("kind", 2), ("action", 3)]) ⟨pE, hotE, List.mem_singleton.mpr rfl⟩ sc_checked_entries.nd (pi_seqVH 1) (blkOk_by (N := ["kinds", "record", "kind", "action"]) (sc := defScope s_checked_entries) (by decide +kernel)) (fun _ _ _ _ _ pE hotE => (pg_anyH (n := 2) ⟨pE, hotE, List.mem_singleton.mpr rfl⟩ (pgs_cons (pg_name (i := 2) sc_checked_entries.nd rfl (by first | exact Or.inl rfl | exact Or.inr rfl)) (pgs_cons (pg_name (i := 3) sc_checked_entries.nd rfl (by first | exact Or.inl rfl | exact Or.inr rfl)) pgs_nil)))) (fun _ _ _ _ _ pE hotE => pts_nil) (fun _ _ _ _ _ pE hotE => (pe_or (pe_cmpR op_isN (pv 2) pe_non (nomark _)) (pe_one (pe_cmpR (op_in_seqK (K := K) rfl) (pv 2) (pv 0) (by with_unfolding_all rfl)))))) pa_nil)))) (pss_one ps_never) pss_nil)
    (pss_one (ps_ret (pe_lcHI (own := [("kind", 2), ("action", 3)]) ⟨pE, hotE, List.mem_singleton.mpr rfl⟩ sc_checked_entries.nd (pi_seqVH 1) (blkOk_by (N := ["kinds", "record", "kind", "action"]) (sc := defScope s_checked_entries) (by decide +kernel)) (fun _ _ _ _ _ pE hotE => (pg_anyH (n := 2) ⟨pE, hotE, List.mem_singleton.mpr rfl⟩ (pgs_cons (pg_name (i := 2) sc_checked_entries.nd rfl (by first | exact Or.inl rfl | exact Or.inr rfl)) (pgs_cons (pg_name (i := 3) sc_checked_entries.nd rfl (by first | exact Or.inl rfl | exact Or.inr rfl)) pgs_nil)))) (fun _ _ _ _ _ pE hotE => pts_nil) (fun _ _ _ _ _ pE hotE => (pe_tup (pa_cons (pv 2) (pa_cons (pv 3) pa_nil)))))))))), ?_⟩
    have ok : ∀ e ∈ es, EnOk e := fun e he k hk => kso.2.2.1 k (ink e he k hk)
    refine ⟨_, rfl, a, ks, rfl, ha, kso, fun H1 s1 => ?_⟩
    refine ⟨_, rfl, v, es, rfl, hv.same s1, ok, l4, fun H2 s2 => ⟨true, rfl, iteF ?_⟩⟩
    have s12 := s1.trans s2
    obtain ⟨b, xs, rfl, hx, hp⟩ := hv
    have lx : xs.length = es.length := Paired.len hp
    refine ⟨b, xs, rfl, hx.same s12, fun J wk L nL => lc_wk wk (fun i H' => Same H2 H' ∧ H' L = some (.lst ((List.replicate i true).map V.bl))) (fun _ _ p => p.1) ⟨same_upd nL, upd_same⟩ (fun i x H3 ex p => ?_) (fun H3 p => ?_)⟩
    · obtain ⟨sm, hL⟩ := p
      obtain ⟨e, ee, hr1⟩ := Paired.at hp ex
      obtain ⟨t, rfl, ht⟩ := EnG.same (s12.trans sm) hr1
      have hi : i < xs.length := (List.getElem?_eq_some_iff.mp ex).1
      have fin : (List.map V.bl (List.replicate i true)).length < sizeLine ∧ Same H2 (upd H3 L (.lst (List.map V.bl (List.replicate i true) ++ [V.bl true]))) ∧ (upd H3 L (.lst (List.map V.bl (List.replicate i true) ++ [V.bl true]))) L = some (.lst ((List.replicate (i + 1) true).map V.bl)) := by
        refine ⟨?_, same_grow nL sm, ?_⟩
        · simp only [List.length_map, List.length_replicate]
          exact small (by omega)
        · rw [upd_same, List.replicate_succ', List.map_append]
          rfl
      refine ⟨t, _, rfl, ht, rfl, _, _, rfl, _, _, rfl, rfl, rfl, yesT ?_⟩
      obtain ⟨k, c⟩ := e
      cases k with
      | none => exact ⟨_, rfl, rfl, _, rfl, iteP (decide_eq_true rfl) ⟨_, hL, fin⟩⟩
      | some k =>
        refine ⟨_, rfl, rfl, _, rfl, iteN (decide_eq_false (fun z => by cases z)) ⟨_, rfl, _, rfl, a, _, rfl, ((ha.same s12).same sm).elim (fun z => .inl (.of z)) (fun z => .inr (.of z)), rfl, flat_strs ks, ?_⟩⟩
        have e9 : inV (koV (some k)) (ks.map V.str) = true := by
          show inV (.str k) _ = true
          rw [inV_strs]
          exact decide_eq_true (ink _ (List.mem_of_getElem? ee) k rfl)
        show (fun y H4 => _) (V.bl (inV (koV (some k)) (ks.map V.str))) H3
        rw [e9]
        exact ⟨_, hL, fin⟩
    obtain ⟨s3, hL⟩ := p
    refine ⟨L, _, rfl, .of hL, ?_⟩
    rw [all_rep]
    refine ⟨true, rfl, iteF ?_⟩
    have s13 := s12.trans s3
    refine ⟨b, xs, rfl, hx.same s13, fun J wk L nL => lc_wk wk (fun i H' => Same H3 H' ∧ ∃ ys, H' L = some (.lst ys) ∧ Paired (EnV H') ys (es.take i)) (fun _ _ p => p.1) ⟨same_upd nL, [], upd_same, .nil⟩ (fun i x H4 ex p => ?_) (fun H4 p => ?_)⟩
    · obtain ⟨sm, ys, hL, hy⟩ := p
      obtain ⟨e, ee, hr1⟩ := Paired.at hp ex
      obtain ⟨t, rfl, ht⟩ := EnG.same (s13.trans sm) hr1
      have hi : i < xs.length := (List.getElem?_eq_some_iff.mp ex).1
      refine ⟨t, _, rfl, ht, rfl, _, _, rfl, _, _, rfl, rfl, rfl, yesT ⟨_, rfl, _, rfl, (by show 2 ≤ sizeLine; decide), fun n nn => ⟨ys, same_upd nn _ _ hL, ?_, same_grow nL (sm.trans (same_upd nn)), ys ++ [.ref n], upd_same, ?_⟩⟩⟩
      · have := Paired.len hy
        rw [List.length_take] at this
        exact small (by omega)
      · rw [take_snoc ee]
        exact Paired.app (Paired.imp (fun _ _ z => EnV.grow (same_upd nn _ _ hL) (EnV.same (same_upd nn) z)) hy) (.cons (EnV.grow (same_upd nn _ _ hL) ⟨n, rfl, upd_same⟩) .nil)
    · obtain ⟨sm, ys, hL, hy⟩ := p
      rw [lx, List.take_length] at hy
      exact q _ _ (s13.trans sm) (s13.free nL) ⟨ys, hL, hy⟩
theorem okH_known_kinds (D : Df K mg "known_kinds" s_known_kinds) : HasH P w K mg base 1 "known_kinds" ["entries", "wanted"] sp_known_kinds := by
  refine hasH_of D sc_known_kinds (fun _ _ _ _ _ _ us hl => match us, hl with | [_, _], _ => rfl) (fun vs H Q E h => ?_) (fun f cdv A outer s H vs Q E pE hotE hr h => ?_)
  · obtain ⟨_, _, _, rfl, _⟩ := h
    rfl
  · obtain ⟨a, es, b, rfl, ⟨xs, hx, hp⟩, l4, q⟩ := h
    refine ⟨_, (pss_one (ps_ret (pe_lcHI (own := [("kind", 2), ("action", 3)]) ⟨pE, hotE, List.mem_singleton.mpr rfl⟩ sc_known_kinds.nd (pi_lstH (pv 0)) (blkOk_by (N := ["entries", "wanted", "kind", "action"]) (sc := defScope s_known_kinds) (by decide +kernel)) (fun _ _ _ _ _ pE hotE => (pg_tupHK (K := K) (n := 2) rfl ⟨pE, hotE, List.mem_singleton.mpr rfl⟩ (pgs_cons (pg_name (i := 2) sc_known_kinds.nd rfl (by first | exact Or.inl rfl | exact Or.inr rfl)) (pgs_cons (pg_name (i := 3) sc_known_kinds.nd rfl (by first | exact Or.inl rfl | exact Or.inr rfl)) pgs_nil)))) (fun _ _ _ _ _ pE hotE => pts_one (PW.pt (pw_and (pt_cmpR op_eq (pv 3) (pv 1) (nomark _)) (pw_and1 (pt_cmpR op_notN (pv 2) pe_non (nomark _)))))) (fun _ _ _ _ _ pE hotE => (pv 2))))), ?_⟩
    have lx := Paired.len hp
    refine ⟨_, rfl, a, rfl, ⟨xs, .of hx⟩, fun L nL => lc_list (K := K) (a := a) (xs := xs) (fun i H' => Same H H' ∧ H' L = some (.lst ((knE (es.take i) b).map V.str))) ⟨same_upd nL, upd_same⟩ (fun i H' _ p => .of (p.1 _ _ hx)) (fun i x H1 ex hP => ?_) (fun H1 hP => ?_)⟩
    · obtain ⟨sm, hL⟩ := hP
      obtain ⟨e, ee, hr1⟩ := Paired.at hp ex
      obtain ⟨t, rfl, ht⟩ := EnV.same sm hr1
      have hi : i < xs.length := (List.getElem?_eq_some_iff.mp ex).1
      refine ⟨t, _, rfl, .of ht, rfl, _, _, rfl, _, _, rfl, rfl, rfl, _, rfl, _, rfl, rfl, _, rfl, ?_⟩
      rw [kn_snoc ee]
      obtain ⟨k, c⟩ := e
      by_cases hc : c = b
      · subst hc
        refine iteP (decide_eq_true rfl) ⟨_, rfl, rfl, _, rfl, ?_⟩
        rw [if_pos rfl]
        cases k with
        | none =>
          refine iteN yes_non ⟨sm, ?_⟩
          show _ = some (HO.lst ((_ ++ []).map V.str))
          rw [List.append_nil]
          exact hL
        | some k =>
          refine iteP (no_non k) ⟨_, rfl, _, hL, ?_, same_grow nL sm, ?_⟩
          · have h1 := kn_len (es.take i) c
            rw [List.length_take] at h1
            rw [List.length_map]
            exact small (by omega)
          · rw [upd_same, List.map_append]
            rfl
      · refine iteN ((act_eq c b).trans (decide_eq_false hc)) (iteF ⟨sm, ?_⟩)
        rw [if_neg hc]
        show _ = some (HO.lst ((_ ++ []).map V.str))
        rw [List.append_nil]
        exact hL
    · obtain ⟨sm, hL⟩ := hP
      rw [lx, List.take_length] at hL
      exact q _ _ sm nL hL
theorem okH_epochs_of (D : Df K mg "epochs_of" s_epochs_of) (T : Tx mg) : HasH P w K mg base 1 "epochs_of" ["entries"] sp_epochs_of := by
  refine hasH_of D sc_epochs_of (fun _ _ _ _ _ _ us hl => match us, hl with | [_], _ => rfl) (fun vs H Q E h => ?_) (fun f cdv A outer s H vs Q E pE hotE hr h => ?_)
  · obtain ⟨_, _, rfl, _⟩ := h
    rfl
  · obtain ⟨a, es, rfl, ⟨xs, hx, hp⟩, l4, q⟩ := h
    have lx := Paired.len hp
    refine ⟨_, (pss_cons (ps_set (i := 1) sc_epochs_of.nd rfl (by first | exact Or.inl rfl | exact Or.inr rfl) (pe_lst pa_nil))
    (pss_cons (ps_set (i := 2) sc_epochs_of.nd rfl (by first | exact Or.inl rfl | exact Or.inr rfl) pe_int)
    (pss_cons (ps_forH PassesOwn.never ⟨pE, hotE, List.mem_singleton.mpr rfl⟩ (pi_lstH (pv 0)) (pg_tupH ⟨pE, hotE, List.mem_singleton.mpr rfl⟩ (pgs_cons (pg_name (i := 3) sc_epochs_of.nd rfl (by first | exact Or.inl rfl | exact Or.inr rfl)) (pgs_cons (pg_name (i := 4) sc_epochs_of.nd rfl (by first | exact Or.inl rfl | exact Or.inr rfl)) pgs_nil)))
      (pss_cons (ps_if (pt_cmpR op_eq (pv 2) pe_int (nomark _)) (pss_one (ps_expr (pe_bm PySem.F.plainAttrs_list PySem.F.slot_list_append PySem.F.type_list_append mt_append (pv 1) (pa_cons (pe_lst pa_nil) pa_nil)))) pss_nil)
    (pss_cons (ps_expr (pe_bm PySem.F.plainAttrs_list PySem.F.slot_list_append PySem.F.type_list_append mt_append (pe_ix ix_list (pv 1) (pe_un un_neg pe_int) (fun _ _ => rfl)) (pa_cons (pe_tup (pa_cons (pv 3) (pa_cons (pv 4) pa_nil))) pa_nil)))
    (pss_one (ps_set (i := 2) sc_epochs_of.nd rfl (by first | exact Or.inl rfl | exact Or.inr rfl) (pe_ifExp (pt_cmpR op_eq (pv 4) pe_str (nomark _)) (pe_op op_add (pv 2) pe_int) (pe_callB (call_max2H ⟨pE, hotE, List.mem_singleton.mpr rfl⟩) (by rfl) T.n_max (by decide +kernel) (pa_cons (pe_op op_sub (pv 2) pe_int) (pa_cons pe_int pa_nil)))))))))
    (pss_one (ps_ret (pv 1)))))), ?_⟩
    refine ⟨Nat.zero_le _, fun E0 nE => ?_⟩
    have aE : a ≠ E0 := ne_of_none hx nE
    refine ⟨_, rfl, a, rfl, ⟨xs, .of (same_upd nE _ _ hx)⟩, for_list (K := K) (a := a) (xs := xs) (fun i σ H' => ∃ refs y3 y4, σ = [some (.ref a), some (.ref E0), some (.int ((lvlE 0 (es.take i) : Nat) : Int)), y3, y4] ∧ Same H H' ∧ H' E0 = some (.lst refs) ∧ Paired (EpV H') refs (goE [] 0 (es.take i)) ∧ refs.Nodup ∧ (∀ t, V.ref t ∈ refs → H t = none ∧ t ≠ E0) ∧ refs.length ≤ i)
      ⟨[], none, none, rfl, same_upd nE, upd_same, .nil, List.nodup_nil, (fun t h => by cases h), Nat.le_refl _⟩ (fun i σ H' _ hP => ?_) (fun i x σ H1 ex hP => ?_) (fun σ H1 hP => ?_)⟩
    · obtain ⟨_, _, _, _, sm, _⟩ := hP
      exact .of (sm _ _ hx)
    · obtain ⟨refs, y3, y4, rfl, sm, hE, hr1, nd, fr, lr⟩ := hP
      obtain ⟨e, ee, he⟩ := Paired.at hp ex
      obtain ⟨t, rfl, ht⟩ := EnV.same sm he
      have hi : i < xs.length := (List.getElem?_eq_some_iff.mp ex).1
      have et : es.take (i + 1) = es.take i ++ [e] := take_snoc ee
      have eg : goE [] 0 (es.take (i + 1)) = putE (goE [] 0 (es.take i)) (lvlE 0 (es.take i)) e := by rw [et, goE_app]; rfl
      have el : lvlE 0 (es.take (i + 1)) = nxtE (lvlE 0 (es.take i)) e := by rw [et, lvlE_app]; rfl
      have hne : lvlE 0 (es.take i) ≠ 0 → refs ≠ [] := fun c z => by
        have : goE [] 0 (es.take i) ≠ [] := by
          cases h5 : es.take i with
          | nil => rw [h5] at c; exact absurd rfl c
          | cons e0 t0 =>
            intro z0
            have hj := congrArg List.flatten z0
            rw [go_eps, eps_join] at hj
            cases hj
        rw [z] at hr1
        cases h6 : goE [] 0 (es.take i) with
        | nil => exact this h6
        | cons _ _ => rw [h6] at hr1; cases hr1
      have hfl : ((putE (goE [] 0 (es.take i)) (lvlE 0 (es.take i)) e).flatten).length ≤ 400 := by
        rw [← eg, go_eps, eps_join, List.length_take]
        omega
      rw [eg, el]
      generalize goE [] 0 (es.take i) = EP at *
      generalize lvlE 0 (es.take i) = l at *
      refine ⟨t, _, rfl, .of ht, rfl, _, _, rfl, _, _, rfl, rfl, ?_⟩
      dsimp only
      refine if_gen (fun σ' H' => σ' = [some (.ref a), some (.ref E0), some (.int (l : Int)), some (koV e.1), some (.str (actS e.2))] ∧ ∃ refs EP', Same H H' ∧ H' E0 = some (.lst refs) ∧ Paired (EpV H') refs EP' ∧ refs.Nodup ∧ (∀ t, V.ref t ∈ refs → H t = none ∧ t ≠ E0) ∧ refs.length ≤ i + 1 ∧ refs ≠ [] ∧ putE EP l e = EP'.dropLast ++ [EP'.getLastD [] ++ [e]]) (fun R k => ?_) (fun σ' H2 hO => ?_)
      · refine ⟨_, rfl, rfl, _, rfl, ?_⟩
        by_cases c : l = 0
        · refine iteP (decide_eq_true (by rw [c]; rfl)) ?_
          refine ⟨_, rfl, .inl ⟨rfl, _, SqL.of hE⟩, Nat.zero_le _, fun n nn => ⟨E0, _, _, rfl, rfl, same_upd nn _ _ hE, small (by omega), ?_⟩⟩
          have hnE : n ≠ E0 := fun z => by rw [z, hE] at nn; cases nn
          have hn : H n = none := sm.free nn
          refine k _ _ ⟨rfl, refs ++ [.ref n], EP ++ [[]], ?_, upd_same, ?_, ?_, ?_, ?_, by simp, ?_⟩
          · exact same_grow nE (sm.trans (same_upd nn))
          · refine Paired.app (eps_grow (same_upd nn _ _ hE) (Paired.imp (fun _ _ z => EpV.same (same_upd nn) z) hr1) fun t ht => (fr t ht).2) (.cons ⟨n, rfl, [], ?_, .nil⟩ .nil)
            rw [upd_ne hnE, upd_same]
          · refine List.nodup_append.mpr ⟨nd, List.nodup_cons.mpr ⟨by simp, List.nodup_nil⟩, fun b hb c hc => ?_⟩
            rw [List.mem_singleton.mp hc]
            intro z
            rw [z] at hb
            obtain ⟨j, hj, ej⟩ := List.mem_iff_getElem.mp hb
            obtain ⟨r', _, ⟨t', e', ys', h', _⟩⟩ := Paired.at hr1 (List.getElem?_eq_getElem hj)
            rw [ej] at e'
            cases e'
            rw [h'] at nn
            cases nn
          · intro t' ht'
            rcases List.mem_append.mp ht' with z | z
            · exact fr t' z
            · cases List.mem_singleton.mp z
              exact ⟨hn, hnE⟩
          · rw [List.length_append]
            show refs.length + 1 ≤ i + 1
            omega
          · unfold putE
            rw [if_pos c]
            simp
        · refine iteN (decide_eq_false (fun z => c (by have := V.int.inj z; omega))) ?_
          refine k _ _ ⟨rfl, refs, EP, sm, hE, hr1, nd, fr, by omega, hne c, ?_⟩
          unfold putE
          rw [if_neg c]
      · obtain ⟨rfl, refs2, EP2, sm2, hE2, hr2, nd2, fr2, lr2, ne2, ep2⟩ := hO
        rw [ep2] at hfl ⊢
        obtain ⟨ri, rl, Ei, El, rfl, rfl, hri, tl, rfl, yl, htl, hyl⟩ := paired_last hr2 ne2
        have hd : (Ei ++ [El]).dropLast = Ei := List.dropLast_concat
        have hg : (Ei ++ [El]).getLastD [] = El := by rw [List.getLastD_eq_getLast?, List.getLast?_concat]; rfl
        rw [hd, hg] at hfl ⊢
        have ntl := fr2 tl (List.mem_append.mpr (.inr (List.mem_cons_self ..)))
        have lyl : yl.length ≤ 400 := by
          rw [List.flatten_append, List.length_append, List.flatten_cons, List.flatten_nil, List.append_nil, List.length_append] at hfl
          have := Paired.len hyl
          omega
        refine ⟨_, rfl, 1, rfl, E0, _, -1, _, rfl, rfl, .of hE2, atI_last _ _, .inl ⟨rfl, _, SqL.of htl⟩, _, rfl, _, rfl, (by show 2 ≤ sizeLine; decide), fun n nn => ⟨tl, _, _, rfl, rfl, same_upd nn _ _ htl, small (by omega), ?_⟩⟩
        have sn := same_upd (o := .tup [koV e.1, .str (actS e.2)]) nn
        have htl3 := sn _ _ htl
        have hn3 : (upd H2 n (.tup [koV e.1, .str (actS e.2)])) n = some (.tup [koV e.1, .str (actS e.2)]) := upd_same
        have hE3 := sn _ _ hE2
        have hri3 := Paired.imp (fun _ _ z => EpV.same sn z) hri
        have hyl3 := Paired.imp (fun _ _ z => EnV.same sn z) hyl
        have sm3 := sm2.trans sn
        generalize upd H2 n (.tup [koV e.1, .str (actS e.2)]) = H3 at *
        have fin : ∀ l' : Int, l' = ((nxtE l e : Nat) : Int) → ∃ refs y3 y4, [some (V.ref a), some (.ref E0), some (.int l'), some (koV e.1), some (.str (actS e.2))] = [some (.ref a), some (.ref E0), some (.int ((nxtE l e : Nat) : Int)), y3, y4] ∧ Same H (upd H3 tl (.lst (yl ++ [.ref n]))) ∧ (upd H3 tl (.lst (yl ++ [.ref n]))) E0 = some (.lst refs) ∧ Paired (EpV (upd H3 tl (.lst (yl ++ [.ref n])))) refs (Ei ++ [El ++ [e]]) ∧ refs.Nodup ∧ (∀ t, V.ref t ∈ refs → H t = none ∧ t ≠ E0) ∧ refs.length ≤ i + 1 := fun l' hl' => by
          refine ⟨ri ++ [.ref tl], _, _, by rw [hl'], same_grow ntl.1 sm3, by rw [upd_ne ntl.2.symm]; exact hE3, ?_, nd2, fr2, lr2⟩
          refine Paired.app (eps_grow htl3 hri3 fun t' ht' z => ?_) (.cons ⟨tl, rfl, _, upd_same, Paired.app (Paired.imp (fun _ _ z => EnV.grow htl3 z) hyl3) (.cons (EnV.grow htl3 ⟨n, rfl, hn3⟩) .nil)⟩ .nil)
          rw [z] at ht'
          exact (List.nodup_append.mp nd2).2.2 _ ht' _ (List.mem_cons_self ..) rfl
        refine ⟨_, rfl, rfl, _, rfl, ?_⟩
        obtain ⟨ke, c⟩ := e
        cases c with
        | true =>
          refine iteP (decide_eq_true rfl) ⟨_, rfl, _, _, rfl, rfl, fin _ ?_⟩
          unfold nxtE
          rw [if_pos rfl]
          omega
        | false =>
          refine iteN (decide_eq_false (show ¬ (V.str (actS false) = V.str (actS true)) by decide +kernel)) ⟨_, rfl, _, _, rfl, rfl, _, _, rfl, fin _ ?_⟩
          show (if (0 : Int) > (l : Int) - 1 then (0 : Int) else (l : Int) - 1) = ((if false = true then l + 1 else l - 1 : Nat) : Int)
          rw [if_neg (show ¬ (false = true) by decide)]
          split <;> omega
    · obtain ⟨refs, y3, y4, rfl, sm, hE, hr1, nd, fr, lr⟩ := hP
      rw [lx, List.take_length, go_eps] at hr1
      exact ⟨_, rfl, q _ _ refs sm nE hE hr1 (fun t ht => (fr t ht).1)⟩
theorem okH_waiting_options (D : Df K mg "waiting_options" s_waiting_options) (T : Tx mg) (G_known_kinds : HasH P w K mg base 1 "known_kinds" ["entries", "wanted"] sp_known_kinds) : HasH P w K mg base 2 "waiting_options" ["kinds", "epoch"] sp_waiting_options := by
  refine hasH_of D sc_waiting_options (fun _ _ _ _ _ _ us hl => match us, hl with | [_, _], _ => rfl) (fun vs H Q E h => ?_) (fun f cdv A outer s H vs Q E pE hotE hr h => ?_)
  · obtain ⟨_, _, _, _, rfl, _⟩ := h
    rfl
  · obtain ⟨a, b, ks, ep, rfl, ha, l12, ⟨xs, hx, hp⟩, ne, l4, q⟩ := h
    refine ⟨_, (pss_cons (ps_if (pt_cmpR op_eq (pe_ix ix_tup (pe_ix ix_list (pv 1) pe_int (fun _ _ => rfl)) pe_int (fun _ _ => rfl)) pe_str (nomark _)) (pss_one (ps_ret (pe_lst pa_nil))) pss_nil)
    (pss_cons (ps_set (i := 2) sc_waiting_options.nd rfl (by first | exact Or.inl rfl | exact Or.inr rfl) (pe_callHot G_known_kinds (hr.mono (by omega)) ⟨pE, hotE, List.mem_singleton.mpr rfl⟩ (by rfl) (pa_cons (pv 1) (pa_cons pe_str pa_nil))))
    (pss_cons (ps_set (i := 3) sc_waiting_options.nd rfl (by first | exact Or.inl rfl | exact Or.inr rfl) (pe_callHot G_known_kinds (hr.mono (by omega)) ⟨pE, hotE, List.mem_singleton.mpr rfl⟩ (by rfl) (pa_cons (pv 1) (pa_cons pe_str pa_nil))))
    (pss_one (ps_ret (pe_lcHI (own := [("kind", 4)]) ⟨pE, hotE, List.mem_singleton.mpr rfl⟩ sc_waiting_options.nd (pi_seqVH 0) (blkOk_by (N := ["kinds", "epoch", "waiting", "leaving", "kind", "each"]) (sc := defScope s_waiting_options) (by decide +kernel)) (fun _ _ _ _ _ pE hotE => (pg_name (i := 4) sc_waiting_options.nd rfl (by first | exact Or.inl rfl | exact Or.inr rfl))) (fun _ _ _ _ _ pE hotE => pts_one (PW.pt (pw_and (pt_cmpR (op_notIn_seqK (K := K) rfl) (pv 4) (pv 3) (by with_unfolding_all rfl)) (pw_and1 (pt_val (pe_callB (cr_allHK (K := K) rfl ⟨pE, hotE, List.mem_singleton.mpr rfl⟩) (by rfl) T.n_all (by decide +kernel) (pa_cons (pe_lcHI (own := [("each", 5)]) ⟨pE, hotE, List.mem_singleton.mpr rfl⟩ sc_waiting_options.nd (pi_seqVH 2) (blkOk_by (N := ["kinds", "epoch", "waiting", "leaving", "kind", "each"]) (sc := relS _ (defScope s_waiting_options)) (by decide +kernel)) (fun _ _ _ _ _ pE hotE => (pg_name (i := 5) sc_waiting_options.nd rfl (by first | exact Or.inl rfl | exact Or.inr rfl))) (fun _ _ _ _ _ pE hotE => pts_nil) (fun _ _ _ _ _ pE hotE => (pe_cmpR op_eq (pv 4) (pv 5) (nomark _)))) pa_nil))))))) (fun _ _ _ _ _ pE hotE => (pv 4)))))))), ?_⟩
    cases hp with
    | nil => exact absurd rfl ne
    | @cons x0 e0 xr er h0 hpr =>
    have hp : Paired (EnV H) (x0 :: xr) (e0 :: er) := .cons h0 hpr
    obtain ⟨t, rfl, ht⟩ := h0
    refine ⟨_, rfl, b, _, 0, _, rfl, rfl, .of hx, atI_ofB (Int.le_refl _) rfl, t, _, 1, _, rfl, rfl, .of ht, rfl, rfl, _, rfl, ?_⟩
    rw [optW_eq] at q
    by_cases c : e0.2 = true
    · rw [if_pos c] at q
      refine iteN (decide_eq_false (by rw [c]; show ¬ (V.str (actS true) = V.str (actS false)); decide +kernel)) ?_
      refine ⟨_, rfl, b, e0 :: er, true, rfl, ⟨_, hx, hp⟩, l4, fun H1 p1 s1 n1 h1 => ?_⟩
      refine ⟨_, rfl, b, e0 :: er, false, rfl, ⟨_, s1 _ _ hx, Paired.imp (fun _ _ z => EnV.same s1 z) hp⟩, l4, fun H2 p2 s2 n2 h2 => ?_⟩
      have h1 := s2 _ _ h1
      have s12 := s1.trans s2
      have ha2 := ha.same s12
      have l1 := kn_len (e0 :: er) true
      clear hx hpr ht n1 n2
      generalize e0 :: er = ep at *
      refine ⟨a, _, rfl, ha2, fun J wk L nL => lc_wk wk (fun i H' => Same H2 H' ∧ H' L = some (.lst (((ks.take i).filter (pW ep)).map V.str))) (fun _ _ p => p.1) ⟨same_upd nL, upd_same⟩ (fun i x H3 ex p => ?_) (fun H3 p => ?_)⟩
      · obtain ⟨sm, hL⟩ := p
        obtain ⟨k, ek, rfl⟩ := str_at ex
        have hi : i < ks.length := (List.getElem?_eq_some_iff.mp ek).1
        refine ⟨rfl, _, rfl, _, rfl, p2, _, rfl, .inl (.of (sm _ _ h2)), rfl, flat_strs _, _, rfl, ?_⟩
        rw [if_pos rfl, inV_strs, filt_snoc ek]
        by_cases c1 : k ∈ knE ep false
        · have e1 : pW ep k = false := by unfold pW; rw [decide_eq_true c1]; rfl
          rw [decide_eq_true c1, e1]
          refine iteF (iteF ⟨sm, ?_⟩)
          rw [if_neg (by decide), List.append_nil]
          exact hL
        · have e1 : pW ep k = (knE ep true).all fun w => decide (k = w) := by unfold pW; rw [decide_eq_false c1]; rfl
          rw [decide_eq_false c1, e1]
          refine iteT ⟨p1, _, rfl, .inl (sm _ _ h1), fun J2 wk2 M nM => lc_wk wk2 (fun j H' => Same H3 H' ∧ H' M = some (.lst ((((knE ep true).take j).map fun w => decide (k = w)).map V.bl))) (fun _ _ p => p.1) ⟨same_upd nM, upd_same⟩ (fun j y H4 ey p => ?_) (fun H4 p => ?_)⟩
          · obtain ⟨sm4, hM⟩ := p
            obtain ⟨w, ew, rfl⟩ := str_at ey
            have hj : j < (knE ep true).length := (List.getElem?_eq_some_iff.mp ew).1
            refine ⟨rfl, yesT ⟨_, rfl, _, rfl, rfl, _, hM, ?_, same_grow nM sm4, ?_⟩⟩
            · simp only [List.length_map, List.length_take]
              exact small (by omega)
            · rw [upd_same, take_snoc ew, List.map_append, List.map_append, str_dec]
              rfl
          · obtain ⟨sm4, hM⟩ := p
            rw [List.length_map, List.take_length] at hM
            refine ⟨M, _, rfl, .of hM, ?_⟩
            rw [bl_all]
            have hL4 := sm4 _ _ hL
            refine ⟨_, rfl, ?_⟩
            cases e2 : (knE ep true).all fun w => decide (k = w) with
            | false =>
              refine iteF ⟨sm.trans sm4, ?_⟩
              rw [if_neg (by decide), List.append_nil]
              exact hL4
            | true =>
              refine iteT ⟨_, rfl, _, hL4, ?_, same_grow nL (sm.trans sm4), ?_⟩
              · have := List.length_filter_le (pW ep) (ks.take i)
                rw [List.length_take] at this
                rw [List.length_map]
                exact small (by omega)
              · rw [upd_same, if_pos rfl, List.map_append]
                rfl
      · obtain ⟨sm, hL⟩ := p
        rw [List.length_map, List.take_length] at hL
        exact q _ _ (s12.trans sm) (s12.free nL) hL
    · have c : e0.2 = false := by simpa using c
      rw [if_neg (by rw [c]; decide)] at q
      refine iteP (decide_eq_true (by rw [c]; rfl)) ⟨Nat.zero_le _, fun p np => q _ _ (same_upd np) np upd_same⟩
theorem okH_later_options (D : Df K mg "later_options" s_later_options) : HasH P w K mg base 1 "later_options" ["kinds", "entry", "waiting"] sp_later_options := by
  refine hasH_of D sc_later_options (fun _ _ _ _ _ _ us hl => match us, hl with | [_, _, _], _ => rfl) (fun vs H Q E h => ?_) (fun f cdv A outer s H vs Q E pE hotE hr h => ?_)
  · obtain ⟨_, _, _, _, _, rfl, _⟩ := h
    rfl
  · obtain ⟨a, v, ks, ⟨ke, c⟩, wt, rfl, ha, l12, ⟨t, rfl, ht⟩, q⟩ := h
    refine ⟨_, (pss_cons (ps_asg (pv 1) (pg_tupH ⟨pE, hotE, List.mem_singleton.mpr rfl⟩ (pgs_cons (pg_name (i := 3) sc_later_options.nd rfl (by first | exact Or.inl rfl | exact Or.inr rfl)) (pgs_cons (pg_name (i := 4) sc_later_options.nd rfl (by first | exact Or.inl rfl | exact Or.inr rfl)) pgs_nil))))
    (pss_cons (ps_if (pt_cmpR op_eq (pv 4) pe_str (nomark _)) (pss_one (ps_ret (pe_lst (pa_cons (pv 2) pa_nil)))) pss_nil)
    (pss_cons (ps_if (pt_cmpR op_isN (pv 3) pe_non (nomark _)) (pss_one (ps_ret (pe_lcHI (own := [("each", 5)]) ⟨pE, hotE, List.mem_singleton.mpr rfl⟩ sc_later_options.nd (pi_seqVH 0) (blkOk_by (N := ["kinds", "entry", "waiting", "kind", "action", "each"]) (sc := defScope s_later_options) (by decide +kernel)) (fun _ _ _ _ _ pE hotE => (pg_name (i := 5) sc_later_options.nd rfl (by first | exact Or.inl rfl | exact Or.inr rfl))) (fun _ _ _ _ _ pE hotE => pts_one (pt_cmpR op_ne (pv 5) (pv 2) (nomark _))) (fun _ _ _ _ _ pE hotE => (pv 5))))) pss_nil)
    (pss_one (ps_ret (pe_lst (pa_cons (pv 3) pa_nil))))))), ?_⟩
    refine ⟨_, rfl, t, _, rfl, .of ht, rfl, _, _, rfl, _, _, rfl, rfl, ?_⟩
    refine ⟨_, rfl, rfl, _, rfl, ?_⟩
    cases c with
    | true =>
      exact iteP (decide_eq_true rfl) ⟨_, rfl, (by show 1 ≤ sizeLine; decide), fun p np => q _ _ (same_upd np) np upd_same⟩
    | false =>
      refine iteN (decide_eq_false (show ¬ (V.str (actS false) = V.str (actS true)) by decide +kernel)) ⟨_, rfl, rfl, _, rfl, ?_⟩
      cases ke with
      | some k =>
        refine iteN (decide_eq_false (fun z => by cases z)) ⟨_, rfl, (by show 1 ≤ sizeLine; decide), fun p np => q _ _ (same_upd np) np upd_same⟩
      | none =>
        refine iteP (decide_eq_true rfl) ⟨a, _, rfl, ha, fun J wk L nL => lc_wk wk (fun i H' => Same H H' ∧ H' L = some (.lst (((ks.take i).filter fun k => !decide (k = wt)).map V.str))) (fun _ _ p => p.1) ⟨same_upd nL, upd_same⟩ (fun i x H3 ex p => ?_) (fun H3 p => ?_)⟩
        · obtain ⟨sm, hL⟩ := p
          obtain ⟨k, ek, rfl⟩ := str_at ex
          have hi : i < ks.length := (List.getElem?_eq_some_iff.mp ek).1
          refine ⟨rfl, _, rfl, _, rfl, rfl, _, rfl, ?_⟩
          rw [str_dec, filt_snoc ek]
          cases e2 : decide (k = wt) with
          | true =>
            refine iteF ⟨sm, ?_⟩
            rw [if_neg (by decide), List.append_nil]
            exact hL
          | false =>
            refine iteT ⟨_, rfl, _, hL, ?_, same_grow nL sm, ?_⟩
            · have := List.length_filter_le (fun k => !decide (k = wt)) (ks.take i)
              rw [List.length_take] at this
              rw [List.length_map]
              exact small (by omega)
            · rw [upd_same, if_pos (by decide), List.map_append]
              rfl
        · obtain ⟨sm, hL⟩ := p
          rw [List.length_map, List.take_length] at hL
          exact q _ _ sm nL hL
theorem okH_product_of (D : Df K mg "product_of" s_product_of) : HasH P w K mg base 1 "product_of" ["numbers"] sp_product_of := by
  refine hasH_of D sc_product_of (fun _ _ _ _ _ _ us hl => match us, hl with | [_], _ => rfl) (fun vs H Q E h => ?_) (fun f cdv A outer s H vs Q E pE hotE hr h => ?_)
  · obtain ⟨_, _, rfl, _⟩ := h
    rfl
  · obtain ⟨a, ns, rfl, ha, l4, b12, q⟩ := h
    refine ⟨_, (pss_cons (ps_set (i := 1) sc_product_of.nd rfl (by first | exact Or.inl rfl | exact Or.inr rfl) pe_int)
    (pss_cons (ps_forH PassesOwn.never ⟨pE, hotE, List.mem_singleton.mpr rfl⟩ (pi_lstH (pv 0)) (pg_name (i := 2) sc_product_of.nd rfl (by first | exact Or.inl rfl | exact Or.inr rfl))
      (pss_one (ps_aug (i := 1) sc_product_of.nd rfl (by first | exact Or.inl rfl | exact Or.inr rfl) (pv 2) ip_mulW)))
    (pss_one (ps_ret (pv 1))))), ?_⟩
    refine ⟨_, rfl, a, rfl, ⟨_, .of ha⟩, for_list (K := K) (a := a) (xs := ns.map nvV) (fun i σ H' => ∃ y2, σ = [some (.ref a), some (.int ((prodN (ns.take i) : Nat) : Int)), y2] ∧ H' = H) ⟨none, rfl, rfl⟩ (fun i σ H' _ hP => ?_) (fun i x σ H1 ex hP => ?_) (fun σ H1 hP => ?_)⟩
    · obtain ⟨_, _, rfl⟩ := hP
      exact .of ha
    · obtain ⟨y2, rfl, rfl⟩ := hP
      rw [List.getElem?_map] at ex
      obtain ⟨n, en, rfl⟩ : ∃ n, ns[i]? = some n ∧ nvV n = x := by
        cases hn : ns[i]? with
        | none => rw [hn] at ex; cases ex
        | some n => rw [hn] at ex; exact ⟨n, rfl, Option.some.inj ex⟩
      have hb := b12 n (List.mem_of_getElem? en)
      have hl := prod_lt (l := ns.take i) (fun n hn => b12 n (List.mem_of_mem_take hn)) (by rw [List.length_take]; omega)
      refine ⟨_, rfl, _, rfl, _, _, rfl, rfl, wide_mul (a := 1700) (b := 8) (by rw [Int.natAbs_natCast]; exact hl) (by rw [Int.natAbs_natCast]; exact Nat.lt_of_le_of_lt hb (by decide)) (by decide) (by decide) (by decide), some (nvV n), ?_, rfl⟩
      rw [prod_snoc en, Int.natCast_mul]
      rfl
    · obtain ⟨y2, rfl, rfl⟩ := hP
      rw [List.length_map, List.take_length]
      exact ⟨_, rfl, q⟩
theorem okH_option_numbers (D : Df K mg "option_numbers" s_option_numbers) (T : Tx mg) (G_epochs_of : HasH P w K mg base 1 "epochs_of" ["entries"] sp_epochs_of) (G_waiting_options : HasH P w K mg base 2 "waiting_options" ["kinds", "epoch"] sp_waiting_options) (G_later_options : HasH P w K mg base 1 "later_options" ["kinds", "entry", "waiting"] sp_later_options) : HasH P w K mg base 3 "option_numbers" ["kinds", "entries"] sp_option_numbers := by
  refine hasH_of D sc_option_numbers (fun _ _ _ _ _ _ us hl => match us, hl with | [_, _], _ => rfl) (fun vs H Q E h => ?_) (fun f cdv A outer s H vs Q E pE hotE hr h => ?_)
  · obtain ⟨_, _, _, _, rfl, _⟩ := h
    rfl
  · obtain ⟨a, b, ks, es, rfl, ha, l0, l12, hb, l4, q⟩ := h
    refine ⟨_, (pss_cons (ps_set (i := 2) sc_option_numbers.nd rfl (by first | exact Or.inl rfl | exact Or.inr rfl) (pe_lst pa_nil))
    (pss_cons (ps_forH PassesOwn.never ⟨pE, hotE, List.mem_singleton.mpr rfl⟩ (pi_lstH (pe_callHot G_epochs_of (hr.mono (by omega)) ⟨pE, hotE, List.mem_singleton.mpr rfl⟩ (by rfl) (pa_cons (pv 1) pa_nil))) (pg_name (i := 3) sc_option_numbers.nd rfl (by first | exact Or.inl rfl | exact Or.inr rfl))
      (pss_cons (ps_expr (pe_bm PySem.F.plainAttrs_list PySem.F.slot_list_append PySem.F.type_list_append mt_append (pv 2) (pa_cons (pe_callB call_len_seq (by rfl) T.n_len (by decide +kernel) (pa_cons (pe_callHot G_waiting_options (hr.mono (by omega)) ⟨pE, hotE, List.mem_singleton.mpr rfl⟩ (by rfl) (pa_cons (pv 0) (pa_cons (pv 3) pa_nil))) pa_nil)) pa_nil)))
    (pss_one (ps_expr (pe_bm PySem.F.plainAttrs_list PySem.F.slot_list_extend PySem.F.type_list_extend mt_extend (pv 2) (pa_cons (pe_lcHI (own := [("entry", 4)]) ⟨pE, hotE, List.mem_singleton.mpr rfl⟩ sc_option_numbers.nd (pi_lstH (pe_slice sl_list (pv 3) (po_some pe_int) po_none)) (blkOk_by (N := ["kinds", "entries", "numbers", "epoch", "entry"]) (sc := defScope s_option_numbers) (by decide +kernel)) (fun _ _ _ _ _ pE hotE => (pg_name (i := 4) sc_option_numbers.nd rfl (by first | exact Or.inl rfl | exact Or.inr rfl))) (fun _ _ _ _ _ pE hotE => pts_nil) (fun _ _ _ _ _ pE hotE => (pe_callB (call_len_seqK (K := K) rfl) (by rfl) T.n_len (by decide +kernel) (pa_cons (pe_callHot G_later_options (hr.mono (by omega)) ⟨pE, hotE, List.mem_singleton.mpr rfl⟩ (by rfl) (pa_cons (pv 0) (pa_cons (pv 4) (pa_cons (pe_ix (ix_seqK (K := K) rfl) (pv 0) pe_int (fun _ _ => rfl)) pa_nil)))) pa_nil)))) pa_nil))))))
    (pss_one (ps_ret (pv 2))))), ?_⟩
    refine ⟨Nat.zero_le _, fun N0 nN => ?_⟩
    have aN := sq_ne ha nN
    have sN := same_upd (o := .lst []) nN
    have hN1 : (upd H N0 (.lst [])) N0 = some (.lst []) := upd_same
    have ha1 := ha.same sN
    refine ⟨_, rfl, b, es, rfl, hb.same sN, l4, fun H2 p1 refs s2 np hp1 hrf nrf => ?_⟩
    have p1N : p1 ≠ N0 := fun z => by rw [z, hN1] at np; cases np
    have rfN : ∀ t, V.ref t ∈ refs → t ≠ N0 := fun t ht z => by have := nrf t ht; rw [z, hN1] at this; cases this
    have hN2 := s2 _ _ hN1
    have ha2 := ha1.same s2
    have sH2 : Same H H2 := sN.trans s2
    obtain ⟨k0, kr, rfl⟩ : ∃ k0 kr, ks = k0 :: kr := by
      cases ks with
      | nil => exact absurd l0 (by decide)
      | cons k r => exact ⟨k, r, rfl⟩
    have lrf := Paired.len hrf
    refine ⟨p1, rfl, ⟨refs, .of hp1⟩, for_list (K := K) (a := p1) (xs := refs) (fun i σ H' => ∃ y3, σ = [some (.ref a), some (.ref b), some (.ref N0), y3, none] ∧ But N0 H2 H' ∧ H' N0 = some (.lst ((((epsE es).take i).flatMap (numP (k0 :: kr))).map nvV))) ⟨none, rfl, But.refl, hN2⟩ (fun i σ H' _ hP => ?_) (fun i x σ H3 ex hP => ?_) (fun σ H3 hP => ?_)⟩
    · obtain ⟨_, _, b3, _⟩ := hP
      exact .of (b3 _ _ p1N hp1)
    · obtain ⟨y3, rfl, b3, hN3⟩ := hP
      obtain ⟨ep, eep, t, rfl, hrec⟩ := Paired.at hrf ex
      have mep : ep ∈ epsE es := List.mem_of_getElem? eep
      have ne := eps_ne ep mep
      have lep : ep.length ≤ 400 := Nat.le_trans (ep_len mep) l4
      have tN := rfN t (List.mem_of_getElem? ex)
      have hrec3 := hrec.but hN2 tN b3
      have ha3 := sq_but aN b3 ha2
      have lns : (((epsE es).take i).flatMap (numP (k0 :: kr))).length ≤ 400 := by
        rw [numL_len fun ep he => eps_ne ep (List.mem_of_mem_take he)]
        have := flat_take (L := epsE es) (i := i)
        rw [eps_join] at this
        omega
      rw [take_snoc eep, List.flatMap_append, List.flatMap_cons, List.flatMap_nil, List.append_nil]
      generalize ((epsE es).take i).flatMap (numP (k0 :: kr)) = ns at *
      refine ⟨_, rfl, .inl ⟨rfl, _, SqL.of hN3⟩, _, rfl, _, rfl, a, t, k0 :: kr, ep, rfl, ha3, l12, hrec3, ne, lep, fun H4 p4 s4 n4 h4 => ⟨p4, _, rfl, .inl (.of h4), N0, _, _, rfl, rfl, s4 _ _ hN3, small (by rw [List.length_map]; omega), ?_⟩⟩
      have hN4 := s4 _ _ hN3
      have hrec5 : Rec (upd H4 N0 (.lst (ns.map nvV ++ [.int (((optW (k0 :: kr) ep).map V.str).length : Nat)]))) t ep := (hrec3.same s4).but hN4 tN but_upd
      have ha5 : Sq2 (upd H4 N0 (.lst (ns.map nvV ++ [.int (((optW (k0 :: kr) ep).map V.str).length : Nat)]))) a _ := sq_but aN but_upd (ha3.same s4)
      have b5 : But N0 H2 (upd H4 N0 (.lst (ns.map nvV ++ [.int (((optW (k0 :: kr) ep).map V.str).length : Nat)]))) := b3.trans ((Same.but s4).trans but_upd)
      have hN5 : (upd H4 N0 (.lst (ns.map nvV ++ [.int (((optW (k0 :: kr) ep).map V.str).length : Nat)]))) N0 = some (.lst ((ns ++ [(optW (k0 :: kr) ep).length]).map nvV)) := by
        rw [upd_same, List.map_append, List.length_map]
        rfl
      generalize upd H4 N0 (.lst (ns.map nvV ++ [.int (((optW (k0 :: kr) ep).map V.str).length : Nat)])) = H5 at *
      obtain ⟨xs, hx5, hpx⟩ := hrec5
      have nex : xs ≠ [] := fun z => by rw [z] at hpx; cases hpx; exact ne rfl
      have hpt := pair_tail hpx
      have lxt := Paired.len hpt
      refine ⟨_, rfl, .inl ⟨rfl, _, SqL.of hN5⟩, _, rfl, 1, rfl, t, xs, rfl, .of hx5, fun c nc => ?_⟩
      rw [cut_tlE xs nex]
      have sc := same_upd (o := .lst xs.tail) nc
      have hc6 : (upd H5 c (.lst xs.tail)) c = some (.lst xs.tail) := upd_same
      have ha6 := ha5.same sc
      have hN6 := sc _ _ hN5
      have hpt6 := Paired.imp (fun _ _ z => EnV.same sc z) hpt
      have b6 := b5.trans (Same.but sc)
      generalize upd H5 c (.lst xs.tail) = H6 at *
      refine ⟨c, rfl, ⟨_, .of hc6⟩, fun L nL => lc_list (K := K) (a := c) (xs := xs.tail) (fun j H' => Same H6 H' ∧ H' L = some (.lst (((ep.tail.take j).map fun e => (optL (k0 :: kr) k0 e).length).map nvV))) ⟨same_upd nL, upd_same⟩ (fun j H' _ p => .of (p.1 _ _ hc6)) (fun j x H7 ex p => ?_) (fun H7 p => ?_)⟩
      · obtain ⟨sm, hL⟩ := p
        obtain ⟨e, ee, he⟩ := Paired.at hpt6 ex
        have hj : j < xs.tail.length := (List.getElem?_eq_some_iff.mp ex).1
        have ltl : ep.tail.length ≤ ep.length := by rw [List.length_tail]; omega
        refine ⟨rfl, yesT ⟨_, rfl, _, rfl, _, rfl, ixQ (ha6.same sm) (atI_ofB (Int.le_refl _) rfl) ⟨a, x, k0 :: kr, e, k0, rfl, ha6.same sm, l12, he.same sm, fun H8 p8 s8 n8 h8 => ⟨p8, _, rfl, .inl (.of h8), _, s8 _ _ hL, ?_, same_grow nL (sm.trans s8), ?_⟩⟩⟩⟩
        · simp only [List.length_map, List.length_take]
          exact small (by omega)
        · rw [upd_same, take_snoc ee, List.map_append, List.map_append, List.length_map]
          rfl
      · obtain ⟨sm, hL⟩ := p
        rw [lxt, List.take_length] at hL
        refine ⟨N0, L, _, _, rfl, rfl, sm _ _ hN6, hL, ?_, _, rfl, ?_, ?_⟩
        · simp only [List.length_map, List.length_append, List.length_tail, List.length_cons, List.length_nil]
          exact smallE (by omega)
        · exact b6.trans ((Same.but sm).trans but_upd)
        · rw [upd_same, ← List.map_append, List.append_assoc]
          rfl
    · obtain ⟨y3, rfl, b3, hN3⟩ := hP
      rw [lrf, List.take_length] at hN3
      exact ⟨_, rfl, q _ _ (fun c o e => b3 _ _ (ne_of_none e nN) (sH2 _ _ e)) nN hN3⟩
theorem okH_fitting_count (D : Df K mg "fitting_count" s_fitting_count) (G_checked_entries : HasH P w K mg base 4 "checked_entries" ["kinds", "record"] sp_checked_entries) (G_option_numbers : HasH P w K mg base 3 "option_numbers" ["kinds", "entries"] sp_option_numbers) (G_product_of : HasH P w K mg base 1 "product_of" ["numbers"] sp_product_of) : HasH P w K mg base 5 "fitting_count" ["kinds", "record"] sp_fitting_count := by
  refine hasH_of D sc_fitting_count (fun _ _ _ _ _ _ us hl => match us, hl with | [_, _], _ => rfl) (fun vs H Q E h => ?_) (fun f cdv A outer s H vs Q E pE hotE hr h => ?_)
  · obtain ⟨_, _, _, _, rfl, _⟩ := h
    rfl
  · obtain ⟨a, v, ks, es, rfl, ha, kso, hv, ink, l4, q⟩ := h
    refine ⟨_, (pss_one (ps_ret (pe_callHot G_product_of (hr.mono (by omega)) ⟨pE, hotE, List.mem_singleton.mpr rfl⟩ (by rfl) (pa_cons (pe_callHot G_option_numbers (hr.mono (by omega)) ⟨pE, hotE, List.mem_singleton.mpr rfl⟩ (by rfl) (pa_cons (pv 0) (pa_cons (pe_callHot G_checked_entries (hr.mono (by omega)) ⟨pE, hotE, List.mem_singleton.mpr rfl⟩ (by rfl) (pa_cons (pv 0) (pa_cons (pv 1) pa_nil))) pa_nil))) pa_nil)))), ?_⟩
    exact ⟨_, rfl, _, rfl, _, rfl, a, v, ks, es, rfl, ha, kso, hv, ink, l4, fun H1 p1 s1 n1 h1 => ⟨a, p1, ks, es, rfl, ha.same s1, kso.1, kso.2.1, h1, l4, fun H2 p2 s2 n2 h2 => ⟨p2, _, rfl, h2, by rw [numE_len]; exact l4, numE_le kso.1 kso.2.1, q _ (s1.trans s2)⟩⟩⟩
end
end UP

set_option Elab.async false
set_option linter.all false
set_option maxRecDepth 100000
set_option maxHeartbeats 4000000
set_option pp.maxSteps 500
namespace UP
open PySem PySem.Spec PyProof.Rows L2
/-! ### the law's own product -/
def cnB (ep : List En) : Nat := ep.countP fun e => e == (none, false)
def prdP (ks : List Str) (ep : List En) : Nat := (if knE ep true ≠ [] then 1 else ks.length - (setS (knE ep false)).length) * (ks.length - 1) ^ cnB ep
def prdL (ks : List Str) : List (List En) → Nat
  | [] => 1
  | ep :: r => prdP ks ep * prdL ks r
def goP (ks : List Str) : List En → Nat → List En → Nat
  | _, _, [] => 1
  | part, l, e :: t => if nxtE l e = 0 ∨ t = [] then prdP ks (part ++ [e]) * goP ks [] (nxtE l e) t else goP ks (part ++ [e]) (nxtE l e) t
theorem goP_eq (ks : List Str) : ∀ (es : List En) (part : List En) (l : Nat), (l = 0 → part = [] → goP ks part l es = prdL ks (splE l es).2) ∧ (l ≠ 0 → es ≠ [] → goP ks part l es = prdP ks (part ++ (splE l es).1) * prdL ks (splE l es).2)
  | [], part, l => ⟨fun _ _ => rfl, fun _ h => absurd rfl h⟩
  | e :: t, part, l => by
    obtain ⟨i1, _⟩ := goP_eq ks t [] (nxtE l e)
    obtain ⟨_, j2⟩ := goP_eq ks t (part ++ [e]) (nxtE l e)
    have main : goP ks part l (e :: t) = prdP ks (part ++ (e :: (splE (nxtE l e) t).1)) * prdL ks (splE (nxtE l e) t).2 := by
      rw [goP]
      by_cases c0 : nxtE l e = 0
      · rw [if_pos (.inl c0), i1 c0 rfl, c0, spl_zero]
      · by_cases ct : t = []
        · subst ct
          rw [if_pos (.inr rfl)]
          rfl
        · rw [if_neg (fun z => z.elim c0 ct), j2 c0 ct, List.append_assoc]
          rfl
    refine ⟨fun l0 p0 => ?_, fun l0 _ => ?_⟩
    · rw [main, splE, if_pos l0, p0]
      rfl
    · rw [main, splE, if_neg l0]
theorem goP_eps (ks : List Str) (es : List En) : goP ks [] 0 es = prdL ks (epsE es) := (goP_eq ks es [] 0).1 rfl rfl
theorem filt_gone {ks g : List Str} (nd : ks.Nodup) (hg : ∀ x ∈ g, x ∈ ks) : (ks.filter fun k => !decide (k ∈ g)).length + (setS g).length = ks.length := by
  have p : (setS g).Perm (ks.filter fun k => decide (k ∈ g)) := by
    refine (List.perm_ext_iff_of_nodup (setS_nodup g) (nd.sublist List.filter_sublist)).mpr fun x => ?_
    rw [setS_mem, List.mem_filter, decide_eq_true_iff]
    exact ⟨fun h => ⟨hg x h, h⟩, fun h => h.2⟩
  rw [p.length_eq]
  have h := List.length_eq_countP_add_countP (l := ks) fun k => decide (k ∈ g)
  rw [List.countP_eq_length_filter, List.countP_eq_length_filter] at h
  have e : (ks.filter fun k => decide ¬ decide (k ∈ g) = true) = ks.filter fun k => !decide (k ∈ g) := by
    congr 1
    funext k
    cases decide (k ∈ g) <;> rfl
  rw [e] at h
  omega
theorem tail_prod {ks : List Str} (l0 : 0 < ks.length) (nd : ks.Nodup) : ∀ t : List En, prodN (t.map fun e => (optL ks (ks.headD "") e).length) = (ks.length - 1) ^ cnB t
  | [] => rfl
  | e :: t => by
    rw [List.map_cons, prod_cons, tail_prod l0 nd t]
    unfold cnB
    rw [List.countP_cons]
    obtain ⟨k, c⟩ := e
    cases c with
    | true =>
      rw [if_neg (show ¬ ((k, true) == ((none, false) : En)) = true by simp), Nat.add_zero]
      show 1 * _ = _
      rw [Nat.one_mul]
    | false =>
      cases k with
      | none =>
        rw [if_pos (show (((none, false) : En) == ((none, false) : En)) = true by simp), Nat.pow_succ, Nat.mul_comm]
        congr 1
        have h := filt_rest nd (head_mem l0)
        show (ks.filter fun k => !decide (k = ks.headD "")).length = _
        omega
      | some k =>
        rw [if_neg (show ¬ ((some k, false) == ((none, false) : En)) = true by simp), Nat.add_zero]
        show 1 * _ = _
        rw [Nat.one_mul]
theorem prd_ep {ks : List Str} {w : Str} {ep : List En} {t : List Str} (l0 : 0 < ks.length) (nd : ks.Nodup) (h : EpB w ep (w :: t)) (hin : ∀ x ∈ w :: t, x ∈ ks) (ik : InK ks ep) : prdP ks ep = prodN (numP ks ep) := by
  cases ep with
  | nil => cases h
  | cons e r =>
    have e2 : e.2 = true := by
      cases h with
      | cons h _ => rw [h.1, decide_eq_true rfl]
    have hw : w ∈ ks := hin w (List.mem_cons_self ..)
    have cn : cnB (e :: r) = cnB r := by
      unfold cnB
      rw [List.countP_cons, if_neg (fun z => by rw [beq_iff_eq.mp z] at e2; cases e2), Nat.add_zero]
    rw [numP_eq, prod_cons, List.tail_cons, tail_prod l0 nd r]
    unfold prdP
    rw [cn]
    congr 1
    rw [optW_eq, if_pos e2]
    by_cases c : knE (e :: r) true ≠ []
    · rw [if_pos c]
      refine (filt_one nd hw fun k hk => ?_).symm
      rw [Bool.eq_iff_iff, decide_eq_true_iff]
      unfold pW
      rw [Bool.and_eq_true, Bool.not_eq_true', decide_eq_false_iff_not, List.all_eq_true]
      constructor
      · rintro ⟨_, h2⟩
        obtain ⟨y, hy⟩ := List.exists_mem_of_ne_nil _ c
        rw [of_decide_eq_true (h2 y hy), kn_true h y hy]
      · intro ek
        subst ek
        exact ⟨fun z => kn_false h k z rfl, fun y hy => decide_eq_true (kn_true h y hy).symm⟩
    · rw [if_neg c]
      have c' : knE (e :: r) true = [] := Classical.byContradiction fun z => c z
      have e3 : (ks.filter (pW (e :: r))) = ks.filter fun k => !decide (k ∈ knE (e :: r) false) := by
        congr 1
        funext k
        unfold pW
        rw [c']
        exact Bool.and_true _
      rw [e3]
      have := filt_gone nd (g := knE (e :: r) false) (fun x hx => by
        obtain ⟨e', he, _, hk⟩ := kn_mem.mp hx
        exact ik e' he x hk)
      omega
theorem prd_all {ks : List Str} (l0 : 0 < ks.length) (nd : ks.Nodup) {L : List (List En)} {its : List Str} (h : EpsF L its) : (∀ x ∈ its, x ∈ ks) → (∀ ep ∈ L, InK ks ep) → prdL ks L = prodN (L.flatMap (numP ks)) := by
  induction h with
  | nil => intro _ _; rfl
  | @cons w ep t rest r hb _ ih =>
    intro hin ik
    rw [prdL, List.flatMap_cons, prod_app, prd_ep l0 nd hb (fun x hx => hin x (List.mem_append_left _ hx)) (ik ep (List.mem_cons_self ..)), ih (fun x hx => hin x (List.mem_append_right _ hx)) fun ep he => ik ep (List.mem_cons_of_mem _ he)]
theorem prd_cnt {ks : List Str} {es : List En} {its : List Str} (l0 : 0 < ks.length) (nd : ks.Nodup) (h : FitE "" 0 es its) (hin : ∀ x ∈ its, x ∈ ks) : goP ks [] 0 es = cntE ks es := by
  rw [goP_eps]
  exact prd_all l0 nd (eps_fit h) hin fun ep he e hm => inK_of h hin e (eps_mem he e hm)
end UP

set_option Elab.async false
set_option linter.all false
set_option maxRecDepth 100000
set_option maxHeartbeats 4000000
set_option pp.maxSteps 400
namespace UP
open PySem PySem.Spec PyProof.Rows L2
/-! ### the first conflict, entry by entry -/
/-- where the epoch of an entry begins -/
def fsA (es : List En) : Nat → Nat
  | 0 => 0
  | i + 1 => if lvlE 0 (es.take (i + 1)) = 0 then i + 1 else fsA es i
theorem fsA_le (es : List En) : ∀ i, fsA es i ≤ i
  | 0 => Nat.le_refl _
  | i + 1 => by
    rw [fsA]
    split
    · exact Nat.le_refl _
    · exact Nat.le_succ_of_le (fsA_le es i)
theorem fsA_zero {es : List En} {i : Nat} (h : lvlE 0 (es.take i) = 0) : fsA es i = i := by
  cases i with
  | zero => rfl
  | succ i => exact if_pos h
theorem fsA_next {es : List En} {i : Nat} (h : lvlE 0 (es.take (i + 1)) ≠ 0) : fsA es (i + 1) = fsA es i := if_neg h
theorem fsA_iff {es : List En} {i : Nat} : fsA es i = i ↔ lvlE 0 (es.take i) = 0 := by
  constructor
  · intro h
    refine Classical.byContradiction fun c => ?_
    cases i with
    | zero => exact c rfl
    | succ i =>
      rw [fsA_next c] at h
      have := fsA_le es i
      omega
  · exact fsA_zero
def cAt (ks : List Str) (es : List En) (i : Nat) : Option Cf := (cfsE ks es (fsA es i) i).head?
def segF (ks : List Str) (es : List En) (f i n : Nat) : Option Cf := (List.range' i n).findSome? fun a => (cfsE ks es f a).head?
theorem find_cons {α β : Type} {F : α → Option β} {x : α} {t : List α} : (x :: t).findSome? F = (F x).or (t.findSome? F) := by
  rw [List.findSome?_cons]
  cases F x <;> rfl
theorem segF_succ (ks : List Str) (es : List En) (f i n : Nat) : segF ks es f i (n + 1) = (cfsE ks es f i).head?.or (segF ks es f (i + 1) n) := by
  unfold segF
  rw [List.range'_succ, find_cons]
theorem cfEp_seg (ks : List Str) (es : List En) (f n : Nat) : cfEp ks es f n = segF ks es f f n := by
  unfold cfEp segF
  rw [List.range'_eq_map_range, List.findSome?_map]
  rfl
theorem scan_go {ks : List Str} {es : List En} : ∀ (t pre : List En) (f : Nat), es = pre ++ t → (lvlE 0 pre ≠ 0 → f = fsA es pre.length) →
    (List.range' pre.length t.length).findSome? (cAt ks es) = (segF ks es f pre.length (splE (lvlE 0 pre) t).1.length).or (cfGo ks es (pre.length + (splE (lvlE 0 pre) t).1.length) (splE (lvlE 0 pre) t).2)
  | [], pre, f, _, _ => rfl
  | e :: t, pre, f, he, hf => by
    have tk : es.take pre.length = pre := by rw [he, List.take_left']; rfl
    have tk1 : es.take (pre.length + 1) = pre ++ [e] := by
      rw [he, show pre ++ e :: t = (pre ++ [e]) ++ t by rw [List.append_assoc]; rfl, List.take_left']
      rw [List.length_append]; rfl
    have l1 : lvlE 0 (pre ++ [e]) = nxtE (lvlE 0 pre) e := by rw [lvlE_app]; rfl
    have ln : (pre ++ [e]).length = pre.length + 1 := by rw [List.length_append]; rfl
    have ih := scan_go (ks := ks) (es := es) t (pre ++ [e]) (fsA es pre.length) (by rw [he, List.append_assoc]; rfl) (fun h => by
      rw [ln]
      exact (fsA_next (by rw [tk1]; exact h)).symm)
    rw [ln, l1] at ih
    rw [List.length_cons, List.range'_succ, find_cons, ih, splE]
    by_cases c : lvlE 0 pre = 0
    · have f0 : fsA es pre.length = pre.length := fsA_zero (by rw [tk]; exact c)
      rw [if_pos c]
      unfold cAt
      rw [f0]
      show _ = (none : Option Cf).or (cfGo ks es (pre.length + 0) ((e :: _) :: _))
      rw [Option.none_or, Nat.add_zero, cfGo, cfEp_seg, List.length_cons, segF_succ, Option.or_assoc, show pre.length + 1 + (splE (nxtE (lvlE 0 pre) e) t).1.length = pre.length + ((splE (nxtE (lvlE 0 pre) e) t).1.length + 1) by omega]
      rfl
    · rw [if_neg c]
      have f1 := hf c
      unfold cAt
      rw [← f1]
      show _ = (segF ks es f pre.length ((splE (nxtE (lvlE 0 pre) e) t).1.length + 1)).or (cfGo ks es (pre.length + ((splE (nxtE (lvlE 0 pre) e) t).1.length + 1)) _)
      rw [segF_succ, Option.or_assoc, show pre.length + 1 + (splE (nxtE (lvlE 0 pre) e) t).1.length = pre.length + ((splE (nxtE (lvlE 0 pre) e) t).1.length + 1) by omega]
theorem cfE_scan (ks : List Str) (es : List En) : cfE ks es = (List.range es.length).findSome? (cAt ks es) := by
  have h := scan_go (ks := ks) (es := es) es [] 0 rfl fun c => absurd rfl c
  rw [List.range_eq_range']
  refine Eq.trans ?_ h.symm
  show cfGo ks es 0 (epsE es) = (segF ks es 0 0 (splE 0 es).1.length).or (cfGo ks es (0 + (splE 0 es).1.length) (splE 0 es).2)
  rw [spl_zero]
  rfl
/-! ### a part of the record, from its beginning -/
theorem enA_take {es : List En} {n a : Nat} (h : a < n) : enA (es.take n) a = enA es a := by
  unfold enA
  rw [List.getD_eq_getElem?_getD, List.getD_eq_getElem?_getD, List.getElem?_take, if_pos h]
theorem fsA_take {es : List En} {n : Nat} : ∀ i, i < n → fsA (es.take n) i = fsA es i
  | 0, _ => rfl
  | i + 1, h => by
    rw [fsA, fsA, fsA_take i (by omega), List.take_take, Nat.min_eq_left (by omega)]
theorem oth_take {es : List En} {n f l : Nat} (h : l < n) : othE (es.take n) f l = othE es f l := by
  unfold othE
  refine List.filter_congr fun a ha => ?_
  have := List.mem_range'_1.mp ha
  rw [enA_take h, enA_take (show a < n by omega)]
theorem btw_take {es : List En} {n f l : Nat} (h : l < n) : btwE (es.take n) f l = btwE es f l := by
  have lt : ∀ a ∈ othE es f l, a < n := fun a ha => by
    have := List.mem_range'_1.mp (List.mem_filter.mp ha).1
    omega
  unfold btwE
  rw [oth_take h]
  congr 1
  · congr 1
    refine List.filter_congr fun a ha => ?_
    rw [enA_take h, enA_take (lt a ha)]
  · congr 1
    refine List.filter_congr fun a ha => ?_
    rw [enA_take h, enA_take (lt a ha)]
theorem cut_take {es : List En} {n f l : Nat} (h : l < n) : cutE (es.take n) f l = cutE es f l := by
  unfold cutE
  rw [List.drop_take, List.take_take, Nat.min_eq_left (by omega)]
theorem cfs_take {ks : List Str} {es : List En} {n f l : Nat} (h : l < n) : cfsE ks (es.take n) f l = cfsE ks es f l := by
  unfold cfsE
  rw [enA_take h, btw_take h, cut_take h]
theorem cAt_take {ks : List Str} {es : List En} {n i : Nat} (h : i < n) : cAt ks (es.take n) i = cAt ks es i := by
  unfold cAt
  rw [fsA_take i h, cfs_take h]
theorem find_congr {α : Type} {F G : Nat → Option α} : ∀ (l : List Nat), (∀ a ∈ l, F a = G a) → l.findSome? F = l.findSome? G
  | [], _ => rfl
  | x :: t, h => by rw [find_cons, find_cons, h x (List.mem_cons_self ..), find_congr t fun a ha => h a (List.mem_cons_of_mem _ ha)]
theorem cfE_take {ks : List Str} {es : List En} {n : Nat} (h : n ≤ es.length) : cfE ks (es.take n) = (List.range n).findSome? (cAt ks es) := by
  rw [cfE_scan, List.length_take, Nat.min_eq_left h]
  exact find_congr _ fun a ha => cAt_take (List.mem_range.mp ha)
/-! ### the entry at which it is -/
def lsC : Cf → Nat
  | .lev l => l
  | .thr _ _ l => l
theorem cfs_last {ks : List Str} {es : List En} {f l : Nat} {c : Cf} (h : c ∈ cfsE ks es f l) : lsC c = l := by
  unfold cfsE at h
  split at h
  · rw [List.mem_singleton.mp h]
    rfl
  · rcases List.mem_append.mp h with h | h
    · unfold btwE at h
      rcases List.mem_append.mp h with h | h
      · obtain ⟨a, _, rfl⟩ := List.mem_map.mp h
        rfl
      · obtain ⟨a, _, rfl⟩ := List.mem_map.mp h
        rfl
    · split at h
      · rw [List.mem_singleton.mp h]
        rfl
      · cases h
theorem cAt_last {ks : List Str} {es : List En} {i : Nat} {c : Cf} (h : cAt ks es i = some c) : lsC c = i := cfs_last (List.mem_of_mem_head? h)
theorem rng_first {α : Type} {F : Nat → Option α} {c : α} : ∀ {n : Nat}, (List.range n).findSome? F = some c → ∃ i, i < n ∧ F i = some c ∧ ∀ j, j < i → F j = none
  | 0, h => by cases h
  | n + 1, h => by
    rw [List.range_succ, List.findSome?_append, find_cons] at h
    rcases Option.or_eq_some_iff.mp h with h | ⟨h1, h2⟩
    · obtain ⟨i, hi, h1, h2⟩ := rng_first h
      exact ⟨i, by omega, h1, h2⟩
    · refine ⟨n, Nat.lt_succ_self _, ?_, fun j hj => List.findSome?_eq_none_iff.mp h1 j (List.mem_range.mpr hj)⟩
      rcases Option.or_eq_some_iff.mp h2 with h2 | ⟨_, h2⟩
      · exact h2
      · cases h2
theorem cfE_first {ks : List Str} {es : List En} {c : Cf} (h : cfE ks es = some c) : lsC c < es.length ∧ cAt ks es (lsC c) = some c ∧ ∀ j, j < lsC c → cAt ks es j = none := by
  rw [cfE_scan] at h
  obtain ⟨i, hi, h1, h2⟩ := rng_first h
  have e := cAt_last h1
  rw [e]
  exact ⟨hi, h1, h2⟩
theorem cfE_pre {ks : List Str} {es : List En} {c : Cf} (h : cfE ks es = some c) {n : Nat} (hn : n ≤ es.length) : cfE ks (es.take n) = if lsC c < n then some c else none := by
  obtain ⟨h1, h2, h3⟩ := cfE_first h
  rw [cfE_take hn]
  split
  · next z => exact find_first h3 h2 z
  · exact find_none fun j hj => h3 j (by omega)
theorem cfE_preN {ks : List Str} {es : List En} (h : cfE ks es = none) {n : Nat} (hn : n ≤ es.length) : cfE ks (es.take n) = none := by
  rw [cfE_take hn]
  refine find_none fun j hj => ?_
  rw [cfE_scan] at h
  exact List.findSome?_eq_none_iff.mp h j (List.mem_range.mpr (by omega))
/-- the entries up to which nothing fits -/
theorem misfits {ks : List Str} {es : List En} : ((List.range es.length).filter fun i => (cfE ks (es.take (i + 1))).isSome).head? = (cfE ks es).map lsC := by
  rw [List.head?_filter]
  cases h : cfE ks es with
  | none =>
    refine List.find?_eq_none.mpr fun i hi => ?_
    rw [cfE_preN h (by have := List.mem_range.mp hi; omega)]
    decide
  | some c =>
    obtain ⟨h1, _, _⟩ := cfE_first h
    refine List.find?_range_eq_some.mpr ⟨?_, List.mem_range.mpr h1, fun j hj => ?_⟩
    · rw [cfE_pre h (by omega), if_pos (Nat.lt_succ_self _)]
      rfl
    · rw [cfE_pre h (by omega), if_neg (by omega)]
      rfl
/-! ### what the law asks at an entry -/
def wO (es : List En) (f i : Nat) : List Nat := (List.range' f (i - f)).filter fun a => (enA es a).2 && ((enA es a).1.isSome && !decide ((enA es a).1 = (enA es i).1))
def lO (es : List En) (f i : Nat) : List Nat := (List.range' f (i - f)).filter fun a => decide ((enA es a).1 = (enA es i).1) && !decide ((enA es a).2 = (enA es i).2)
theorem at_lev {ks : List Str} {es : List En} {i : Nat} (h0 : lvlE 0 (es.take i) = 0) (h : (enA es i).2 = false) : cAt ks es i = some (.lev i) := by
  unfold cAt cfsE
  rw [fsA_zero h0, decide_eq_true rfl, h]
  rfl
theorem at_rest {ks : List Str} {es : List En} {i : Nat} (h : ¬ (lvlE 0 (es.take i) = 0 ∧ (enA es i).2 = false)) : cAt ks es i = (btwE es (fsA es i) i ++ (if exhE ks (cutE es (fsA es i) i) then [Cf.thr "all" (fsA es i) i] else [])).head? := by
  unfold cAt cfsE
  refine congrArg List.head? (if_neg fun z => ?_)
  rw [Bool.and_eq_true, decide_eq_true_iff, Bool.not_eq_true'] at z
  exact h ⟨fsA_iff.mp z.1, z.2⟩
theorem btw_eq {es : List En} {f i : Nat} (hk : (enA es i).1.isSome = true) : btwE es f i = (if (enA es i).2 = true then wO es f i else []).map (Cf.thr "waits" · i) ++ (lO es f i).map (Cf.thr "leaves" · i) := by
  unfold btwE othE wO lO
  rw [List.filter_filter, List.filter_filter]
  congr 1
  · congr 1
    split
    · next h =>
      refine List.filter_congr fun a _ => ?_
      rw [hk, h]
      cases (enA es a).2 <;> cases (enA es a).1.isSome <;> simp
    · next h =>
      have h : (enA es i).2 = false := by simpa using h
      refine List.filter_eq_nil_iff.mpr fun a _ => ?_
      rw [h]
      cases (enA es a).2 <;> simp
  · congr 1
    refine List.filter_congr fun a _ => ?_
    rw [hk]
    by_cases e : (enA es a).1 = (enA es i).1
    · rw [e, hk]
      cases (enA es a).2 <;> cases (enA es i).2 <;> simp
    · rw [decide_eq_false e]
      simp
theorem btw_none {es : List En} {f i : Nat} (hk : (enA es i).1 = none) : btwE es f i = [] := by
  have : othE es f i = [] := by
    unfold othE
    refine List.filter_eq_nil_iff.mpr fun a _ => ?_
    rw [hk]
    simp
  unfold btwE
  rw [this]
  rfl
theorem exh_eq {ks : List Str} {es : List En} {f i : Nat} (nd : ks.Nodup) (ik : InK ks es) (fi : f ≤ i) (li : i < es.length) :
    exhE ks (cutE es f i) = (decide (knE (cutE es f i) true = []) && decide ((setS (knE (cutE es f i) false)).length = ks.length) || (decide (ks.length = 1) && decide ((enA es i).2 = false))) := by
  have lc : (cutE es f i).length = i + 1 - f := by
    unfold cutE
    rw [List.length_take, List.length_drop]
    omega
  have hg : ∀ x ∈ knE (cutE es f i) false, x ∈ ks := fun x hx => by
    obtain ⟨e, he, _, h1⟩ := kn_mem.mp hx
    exact ik e (List.mem_of_mem_drop (List.mem_of_mem_take he)) x h1
  have lb : lastB (cutE es f i) = (enA es i).2 := by
    unfold lastB
    rw [lc]
    unfold cutE
    rw [enA_take (by omega)]
    unfold enA
    rw [List.getD_eq_getElem?_getD, List.getElem?_drop, List.getD_eq_getElem?_getD, show f + (i + 1 - f - 1) = i by omega]
  have fg := filt_gone nd hg
  have ea : (ks.all fun k => decide (k ∈ knE (cutE es f i) false)) = decide ((setS (knE (cutE es f i) false)).length = ks.length) := by
    rw [Bool.eq_iff_iff, decide_eq_true_iff, List.all_eq_true]
    constructor
    · intro h
      have : (ks.filter fun k => !decide (k ∈ knE (cutE es f i) false)) = [] := List.filter_eq_nil_iff.mpr fun k hk => by rw [h k hk]; decide
      rw [this] at fg
      simpa using fg
    · intro h k hk
      have : (ks.filter fun k => !decide (k ∈ knE (cutE es f i) false)) = [] := List.length_eq_zero_iff.mp (by omega)
      have := List.filter_eq_nil_iff.mp this k hk
      simpa using this
  unfold exhE
  rw [ea, lb]
  congr 1
  · congr 1
    cases knE (cutE es f i) true <;> rfl
  · congr 1
    cases (enA es i).2 <;> rfl
theorem at_waits {ks : List Str} {es : List En} {i a : Nat} {r : List Nat} (h : ¬ (lvlE 0 (es.take i) = 0 ∧ (enA es i).2 = false)) (hk : (enA es i).1.isSome = true) (h2 : (enA es i).2 = true) (hw : wO es (fsA es i) i = a :: r) : cAt ks es i = some (.thr "waits" a i) := by
  rw [at_rest h, btw_eq hk, if_pos h2, hw]
  rfl
theorem at_leaves {ks : List Str} {es : List En} {i a : Nat} {r : List Nat} (h : ¬ (lvlE 0 (es.take i) = 0 ∧ (enA es i).2 = false)) (hk : (enA es i).1.isSome = true) (h2 : (enA es i).2 = true → wO es (fsA es i) i = []) (hw : lO es (fsA es i) i = a :: r) : cAt ks es i = some (.thr "leaves" a i) := by
  rw [at_rest h, btw_eq hk, hw]
  have : (if (enA es i).2 = true then wO es (fsA es i) i else []) = [] := by
    split
    · next z => exact h2 z
    · rfl
  rw [this]
  rfl
theorem at_last {ks : List Str} {es : List En} {i : Nat} (h : ¬ (lvlE 0 (es.take i) = 0 ∧ (enA es i).2 = false)) (h2 : (enA es i).1.isSome = true → ((enA es i).2 = true → wO es (fsA es i) i = []) ∧ lO es (fsA es i) i = []) : cAt ks es i = if exhE ks (cutE es (fsA es i) i) then some (.thr "all" (fsA es i) i) else none := by
  have hb : btwE es (fsA es i) i = [] := by
    cases hk : (enA es i).1 with
    | none => exact btw_none hk
    | some k =>
      have hs : (enA es i).1.isSome = true := by rw [hk]; rfl
      obtain ⟨h3, h4⟩ := h2 hs
      rw [btw_eq hs, h4]
      have : (if (enA es i).2 = true then wO es (fsA es i) i else []) = [] := by
        split
        · next z => exact h3 z
        · rfl
      rw [this]
      rfl
  rw [at_rest h, hb, List.nil_append]
  split <;> rfl
end UP

set_option Elab.async false
set_option linter.all false
set_option maxRecDepth 100000
set_option maxHeartbeats 4000000
set_option pp.maxSteps 600
/-! ### list(enumerate(xs)) of a list -/
namespace UP.Le
open PySem PySem.Calls PyProof.Rows PySem.Spec
theorem enum_no_len : typeLookup (.type "enumerate") "__len__" = pure none := by rw [typeLookup_type, builtinLookup_eq_fast]; kernel_rfl
theorem enum_no_hint : typeLookup (.type "enumerate") "__length_hint__" = pure none := by rw [typeLookup_type, builtinLookup_eq_fast]; kernel_rfl
structure Got (xs : Array Value) (lo : Addr) (h : Heap) (as : List Addr) : Prop where
  rise : as.Pairwise (· < ·)
  above : ∀ a ∈ as, lo < a
  pairs : ∀ (j : Nat) (a : Addr), as[j]? = some a → ∃ t x, xs[j]? = some x ∧ h.get? a = some { cls := .type "tuple", data := .seq #[.int j t, x] }
theorem Got.there {xs : Array Value} {lo : Addr} {h : Heap} {as : List Addr} (g : Got xs lo h as) {a : Addr} (ha : a ∈ as) : a < h.objs.size := by
  obtain ⟨j, hj⟩ := List.mem_iff_getElem?.mp ha
  obtain ⟨_, _, _, e⟩ := g.pairs j a hj
  exact Heap.lt_size e
/-- the enumerate under way, its tuples above S -/
def St (e it l : Addr) (xs : Array Value) (S : Addr) (i : Nat) (h : Heap) : Prop :=
  h.IsListIter it l i ∧ h.IsList l xs ∧ ((∃ old, IsEnum h e it i old) ∨ ∃ old T f oT, IsEnumHeld h e it i old T f ∧ h.get? T = some oT ∧ T ≠ e ∧ T ≠ it ∧ T ≠ S)
section
variable {prog : Program} {w : World} {A : Around} {s : Shared} {e it l S : Addr} {xs : Array Value}
theorem St.keep {i : Nat} {h h' : Heap} (st : St e it l xs S i h) (hk : ∀ b o, b ≠ S → h.get? b = some o → h'.get? b = some o)
    (de : e ≠ S) (di : it ≠ S) (dl : l ≠ S) : St e it l xs S i h' := by
  obtain ⟨hit, hl, he⟩ := st
  refine ⟨hit.at fun o x => hk _ o di x, hl.at fun o x => hk _ o dl x, ?_⟩
  rcases he with ⟨old, he⟩ | ⟨old, T, f, oT, he, hT, r1, r2, r3⟩
  · exact .inl ⟨old, hk _ _ de he⟩
  · exact .inr ⟨old, T, f, oT, hk _ _ de he, hk _ _ r3 hT, r1, r2, r3⟩
theorem item {i : Nat} {E : Value → Shared → Prop} {Q : Option Value → Shared → Prop} (hei : e ≠ it) (hle : l ≠ e) (hli : l ≠ it) (st : St e it l xs S i s.heap) (hS : S < s.heap.objs.size) (hx : i < xs.size)
    (hQ : ∀ h' t, St e it l xs S (i + 1) h' → h'.get? s.heap.objs.size = some { cls := .type "tuple", data := .seq #[.int i t, xs[i]] } → h'.objs.size = s.heap.objs.size + 1 →
      (∀ c o, c ≠ e → c ≠ it → s.heap.get? c = some o → h'.get? c = some o) → Q (some (.ref s.heap.objs.size)) { s with heap := h', toks := s.toks + 1 }) :
    wpAny (model prog w) A (pyNext (.ref e)) Q E s := by
  obtain ⟨hit, hl, he⟩ := st
  have ex := Array.getElem?_eq_getElem hx
  have ec : ((i + 1 : Nat) : Int) = (i : Int) + 1 := by omega
  have nit : s.heap.objs.size ≠ it := let ⟨_, x, _⟩ := hit; Nat.ne_of_gt (Heap.lt_size x)
  rcases he with ⟨old, he⟩ | ⟨old, T, f, oT, he, hT, r1, r2, r3⟩
  · refine wpAny_pyNext_enum_item he hit hl ex hei fun h' ho hit' hT hsz hk => ?_
    exact hQ h' _ ⟨hit', hl.at fun o x => hk l o hle hli x, .inr ⟨_, s.heap.objs.size, false, _, (by rw [ec]; exact ho), hT, Nat.ne_of_gt (Heap.lt_size he), nit, Nat.ne_of_gt hS⟩⟩ hT hsz fun b o h1 h2 x => hk b o h1 h2 x
  · refine wpAny_pyNext_enum_item_held he hT r1 r2 hit hl ex hei fun h' ho hit' hT' hsz hk => ?_
    exact hQ h' _ ⟨hit', hl.at fun o x => hk l o hle hli x, .inr ⟨old, T, true, oT, (by rw [ec]; exact ho), hk _ _ r1 r2 hT, r1, r2, r3⟩⟩ hT' hsz fun b o h1 h2 x => hk b o h1 h2 x
theorem done {i : Nat} {E : Value → Shared → Prop} {Q : Option Value → Shared → Prop} (hh : A.handled = none) (st : St e it l xs S i s.heap) (hx : xs.size ≤ i)
    (hQ : ∀ h', (∀ c o, c ≠ e → c ≠ it → s.heap.get? c = some o → h'.get? c = some o) → Q none { s with heap := h' }) :
    wpAny (model prog w) A (pyNext (.ref e)) Q E s := by
  obtain ⟨hit, hl, he⟩ := st
  have hend : xs[i]? = none := Array.getElem?_eq_none hx
  rcases he with ⟨old, he⟩ | ⟨old, T, f, oT, he, hT, r1, r2, r3⟩
  · exact wpAny_pyNext_enum_end hh he hit hl hend fun h' hk => hQ h' fun c o c1 c2 x => hk c o c2 x
  · exact wpAny_pyNext_enum_end_held hh he hit hl hend fun h' hk => hQ h' fun c o c1 c2 x => hk c o c2 x
structure Low (e it l S : Addr) : Prop where
  e : e < S
  it : it < S
  l : l < S
theorem loop {R : Result → Shared → Prop} (hh : A.handled = none) (hei : e ≠ it) (hle : l ≠ e) (hli : l ≠ it) (L : Low e it l S) (hn : xs.size ≤ sizeLine) (res : Value) {h₁ : Heap}
    (hR : ∀ h' tk acc c as, (∀ b o, b ≠ S → b ≠ e → b ≠ it → h₁.get? b = some o → h'.get? b = some o) → h'.get? S = some { cls := .type "list", dict := none, data := .seq acc c, slots := #[] } → as.length = xs.size → Got xs S h' as →
      acc.toList = as.map Value.ref → R (.ok (.ret res)) { s with heap := h', toks := tk }) :
    ∀ (k i : Nat) (h : Heap) (tk c : Nat) (acc : Array Value) (as : List Addr), xs.size - i = k → i ≤ xs.size → St e it l xs S i h → (∀ b o, b ≠ S → b ≠ e → b ≠ it → h₁.get? b = some o → h.get? b = some o) →
      h.get? S = some { cls := .type "list", dict := none, data := .seq acc c, slots := #[] } → acc.toList = as.map Value.ref → as.length = i → Got xs S h as →
      codeAny (model prog w) A (.builtin "list.extend.loop" ⟨[.ref S, .ref e, res], []⟩) R { s with heap := h, toks := tk } := by
  have ne := Nat.ne_of_gt L.e
  have ni := Nat.ne_of_gt L.it
  have hi_ : ∀ {a : Addr}, S < a → a ≠ e ∧ a ≠ it := fun {a} g => ⟨Nat.ne_of_gt (Nat.lt_trans L.e g), Nat.ne_of_gt (Nat.lt_trans L.it g)⟩
  intro k
  induction k with
  | zero =>
    intro i h tk c acc as hk hi hst hkeep hS hacc hal hG
    have hin : i = xs.size := by omega
    refine codeAny_builtin PySem.F.entry_extend_loop ?_
    rw [Around.under_plainId PySem.F.plain_extend_loop _]
    show wpAny _ A.in1 (pyNext (.ref e) >>= _) _ _ _
    refine wpAny_bind (done (s := { s with heap := h, toks := tk }) (A := A.in1) hh hst (by omega) fun h' he => ?_)
    refine wpAny_pure (hR h' tk acc c as (fun b o c0 c1 c2 x => he b o c1 c2 (hkeep b o c0 c1 c2 x)) (he S _ ne ni hS) (by omega) ⟨hG.rise, hG.above, fun j a hj => ?_⟩ hacc)
    obtain ⟨t, x, f1, e3⟩ := hG.pairs j a hj
    obtain ⟨g1, g2⟩ := hi_ (hG.above a (List.mem_of_getElem? hj))
    exact ⟨t, x, f1, he a _ g1 g2 e3⟩
  | succ k ih =>
    intro i h tk c acc as hk hi hst hkeep hS hacc hal hG
    have hlt : i < xs.size := by omega
    have hsz : acc.size = i := by rw [← Array.length_toList, hacc, List.length_map, hal]
    have hSl : S < h.objs.size := Heap.lt_size hS
    refine codeAny_builtin PySem.F.entry_extend_loop ?_
    rw [Around.under_plainId PySem.F.plain_extend_loop _]
    show wpAny _ A.in1 (pyNext (.ref e) >>= _) _ _ _
    refine wpAny_bind (item (s := { s with heap := h, toks := tk }) hei hle hli hst hSl hlt fun h' t hst' ht hz hkp => ?_)
    dsimp only at ht hz hkp ⊢
    have hS' := hkp S _ ne ni hS
    have up : ∀ b o, b ≠ S → h'.get? b = some o → (h'.update S (Obj.mapSeq (·.push (Value.ref h.objs.size)))).get? b = some o := fun b o hb x => (Heap.get?_update_other _ _ (Ne.symm hb)).trans x
    show wpAny _ A.in1 (updateSeq S (·.push (Value.ref h.objs.size)) >>= _) _ _ _
    refine wpAny_bind ?_
    refine wpAny_updateSeq hS' rfl (wpAny_pure ⟨plainId_quiet PySem.F.plain_extend_loop _, ih (i + 1) _ (tk + 1) _ (acc.push (Value.ref h.objs.size)) (as ++ [h.objs.size]) (by omega) hlt (hst'.keep up (Nat.ne_of_lt L.e) (Nat.ne_of_lt L.it) (Nat.ne_of_lt L.l))
      (fun b o c0 c1 c2 x => up b o c0 (hkp b o c1 c2 (hkeep b o c0 c1 c2 x))) (Heap.get?_update_self _ hS' rfl) (by rw [Array.toList_push, hacc, List.map_append]; rfl) (by rw [List.length_append, hal]; rfl) ⟨?_, ?_, ?_⟩⟩) (by rw [hsz]; omega) (by show (acc.push (Value.ref h.objs.size)).size ≤ sizeLine + 1; rw [Array.size_push, hsz]; omega)
    · refine List.pairwise_append.mpr ⟨hG.rise, List.pairwise_singleton _ _, fun a ha b hb => ?_⟩
      rw [List.mem_singleton.mp hb]
      exact hG.there ha
    · intro a ha
      rcases List.mem_append.mp ha with ha | ha
      · exact hG.above a ha
      · rw [List.mem_singleton.mp ha]; exact hSl
    · intro j b hj
      rcases Nat.lt_trichotomy j as.length with q1 | q1 | q1
      · rw [List.getElem?_append_left q1] at hj
        obtain ⟨t', x, f1, e3⟩ := hG.pairs j b hj
        have hb := hG.above b (List.mem_of_getElem? hj)
        obtain ⟨g1, g2⟩ := hi_ hb
        exact ⟨t', x, f1, up b _ (Nat.ne_of_gt hb) (hkp b _ g1 g2 e3)⟩
      · subst q1
        have hb : h.objs.size = b := by simpa using hj
        subst hb
        subst hal
        exact ⟨_, _, Array.getElem?_eq_getElem hlt, up _ _ (Nat.ne_of_gt hSl) ht⟩
      · have hnone : (as ++ [h.objs.size])[j]? = none := List.getElem?_eq_none (by rw [List.length_append, List.length_singleton]; omega)
        rw [hnone] at hj; cases hj
theorem extend {R : Result → Shared → Prop} (hh : A.handled = none) (hei : e ≠ it) (hle : l ≠ e) (hli : l ≠ it) (L : Low e it l S) (hn : xs.size ≤ sizeLine) (st : St e it l xs S 0 s.heap) {old : Value} (hz : IsEnum s.heap e it 0 old) (res : Value) (c₀ : Nat) (hS : s.heap.get? S = some { cls := .type "list", data := .seq #[] c₀ })
    (hR : ∀ h' tk acc c as, (∀ b o, b ≠ S → b ≠ e → b ≠ it → s.heap.get? b = some o → h'.get? b = some o) → h'.get? S = some { cls := .type "list", dict := none, data := .seq acc c, slots := #[] } → as.length = xs.size → Got xs S h' as →
      acc.toList = as.map Value.ref → R (.ok (.ret res)) { s with heap := h', toks := tk }) :
    wpAny (model prog w) A.in1 (Builtin.List.listExtendWith (.ref S) (.ref e) res)
      (fun fin s' => match fin with | .done f => R (.ok f) s' | .again c' => c'.quiet = true ∧ codeAny (model prog w) A c' R s') (fun e s' => R (.error e) s') s := by
  have hT : s.TypeIs (.ref e) "enumerate" := ⟨_, hz, rfl⟩
  unfold Builtin.List.listExtendWith
  refine wpAny_bind (wpAny_typeOf hT ?_)
  have h1 : Builtin.List.listSameRef (.ref S) (.ref e) = false := by simp [Builtin.List.listSameRef, Nat.ne_of_gt L.e]
  have h2 : (Value.type "enumerate" == Value.type "list") = false := by decide
  have h3 : (Value.type "enumerate" == Value.type "tuple") = false := by decide
  simp only [h1, h2, h3, Bool.or_false, Bool.false_eq_true, if_false]
  refine wpAny_bind (wpAny_pyIter_enum hz ?_)
  refine wpAny_bind (wpAny_holding ?_)
  unfold Builtin.List.listLengthHint
  refine wpAny_bind (wpAny_specialOf hT enum_no_len ?_)
  show wpAny _ A.in1 (specialOf (Value.ref e) (Str.ofString "__length_hint__") >>= _) _ _ _
  refine wpAny_bind (wpAny_specialOf hT enum_no_hint ?_)
  refine wpAny_pure ?_
  show wpAny _ A.in1 (rule "list.extend.makes-room" >>= fun _ => Builtin.List.listTouch (.ref S) >>= fun _ =>
    again (.builtin "list.extend.loop" ⟨[.ref S, .ref e, res], []⟩)) _ _ _
  refine wpAny_bind (wpAny_rule ?_)
  refine wpAny_bind ?_
  show wpAny _ A.in1 (updateSeq S (·.push .none) >>= fun _ => updateSeq S (·.pop)) _ _ _
  refine wpAny_bind (wpAny_updateSeq hS rfl ?_)
  have hS₂ := Heap.get?_update_self (Obj.mapSeq (·.push Value.none)) hS rfl
  refine wpAny_updateSeq (hz := by seq_fits) hS₂ rfl ?_
  have hS₃ := Heap.get?_update_self (Obj.mapSeq (·.pop)) hS₂ rfl
  have oth : ∀ b o, b ≠ S → s.heap.get? b = some o → ((s.heap.update S (Obj.mapSeq (·.push Value.none))).update S (Obj.mapSeq (·.pop))).get? b = some o :=
    fun b o hb x => (Heap.get?_update_other _ _ (Ne.symm hb)).trans ((Heap.get?_update_other _ _ (Ne.symm hb)).trans x)
  refine wpAny_pure ⟨plainId_quiet F.plain_extend_loop _, ?_⟩
  exact loop hh hei hle hli L hn res (h₁ := s.heap) (fun h' tk acc c as hk hS' hl hG hacc => hR h' tk acc c as hk hS' hl hG hacc) xs.size 0 _ s.toks _ #[] [] (Nat.sub_zero _) (Nat.zero_le _)
    (st.keep oth (Nat.ne_of_lt L.e) (Nat.ne_of_lt L.it) (Nat.ne_of_lt L.l)) (fun b o c0 _ _ x => oth b o c0 x) hS₃ rfl rfl
    ⟨List.Pairwise.nil, (fun _ ha => nomatch ha), (fun j a hj => by simp at hj)⟩
theorem init {R : Result → Shared → Prop} (hh : A.handled = none) (hei : e ≠ it) (hle : l ≠ e) (hli : l ≠ it) (L : Low e it l S) (hn : xs.size ≤ sizeLine) (st : St e it l xs S 0 s.heap) {old : Value} (hz : IsEnum s.heap e it 0 old) (hS : s.heap.get? S = some { cls := .type "list", data := .seq #[] })
    (hR : ∀ h' tk acc c as, (∀ b o, b ≠ S → b ≠ e → b ≠ it → s.heap.get? b = some o → h'.get? b = some o) → h'.get? S = some { cls := .type "list", dict := none, data := .seq acc c, slots := #[] } → as.length = xs.size → Got xs S h' as →
      acc.toList = as.map Value.ref → R (.ok (.ret .none)) { s with heap := h', toks := tk }) :
    wpAny (model prog w) A.in1 (Builtin.«list.__init__» ⟨[.ref S, .ref e], []⟩)
      (fun fin s' => match fin with | .done f => R (.ok f) s' | .again c' => c'.quiet = true ∧ codeAny (model prog w) A c' R s') (fun e s' => R (.error e) s') s := by
  show wpAny _ A.in1 (do let old ← Builtin.List.listItems (.ref S); Builtin.List.listUpdate (.ref S) (fun _ => #[]); letGo old.toList.reverse; Builtin.List.listExtendWith (.ref S) (.ref e) .none) _ _ s
  refine wpAny_bind ?_
  unfold Builtin.List.listItems
  refine wpAny_bind (wpAny_seqItems hS rfl (wpAny_pure ?_))
  show wpAny _ A.in1 (updateSeq S (fun _ => #[]) >>= fun _ => letGo (#[] : Array Value).toList.reverse >>= fun _ => Builtin.List.listExtendWith (.ref S) (.ref e) .none) _ _ s
  refine wpAny_bind (wpAny_updateSeq hS rfl ?_)
  have hS₂ := Heap.get?_update_self (Obj.mapSeq (fun _ => (#[] : Array Value))) hS rfl
  have oth : ∀ b o, b ≠ S → s.heap.get? b = some o → (s.heap.update S (Obj.mapSeq (fun _ => (#[] : Array Value)))).get? b = some o :=
    fun b o hb x => (Heap.get?_update_other _ _ (Ne.symm hb)).trans x
  refine wpAny_bind (wpAny_letGo ?_)
  refine extend hh hei hle hli L hn (st.keep oth (Nat.ne_of_lt L.e) (Nat.ne_of_lt L.it) (Nat.ne_of_lt L.l)) (oth _ _ (Nat.ne_of_lt L.e) hz) .none _ hS₂ fun h' tk acc c as hk hS' hl hG hacc => ?_
  exact hR h' tk acc c as (fun b o c0 c1 c2 x => hk b o c0 c1 c2 (oth b o c0 x)) hS' hl hG hacc
end
section
variable {prog : Program} {w : World} {A : Around} {E : Value → Shared → Prop} {s : Shared} {e it l : Addr} {xs : Array Value}
theorem call {Q : Value → Shared → Prop} (hh : A.handled = none) (hei : e ≠ it) (hle : l ≠ e) (hli : l ≠ it) (hn : xs.size ≤ sizeLine)
    {old : Value} (hz : IsEnum s.heap e it 0 old) (h1 : s.heap.IsListIter it l 0) (hl1 : s.heap.IsList l xs)
    (hQ : ∀ h' tk acc c as, (∀ b o, b ≠ e → b ≠ it → s.heap.get? b = some o → h'.get? b = some o) → h'.get? s.heap.objs.size = some { cls := .type "list", dict := none, data := .seq acc c, slots := #[] } → as.length = xs.size → Got xs s.heap.objs.size h' as →
      acc.toList = as.map Value.ref → Q (.ref s.heap.objs.size) { s with heap := h', toks := tk }) :
    wpAny (model prog w) A (PySem.call (.type "list") [.ref e]) Q E s := by
  refine callType_codes (Q₁ := fun obj s₁ => obj = .ref s.heap.objs.size ∧ s₁ = { s with heap := s.heap.push { cls := .type "list", data := .seq #[] } }) PySem.F.called_list (PySem.F.typeCall_list_1 _) PySem.F.entry_list_init
    (code_list_new _ ⟨rfl, rfl⟩) fun obj s₁ h₁ => ?_
  obtain ⟨rfl, rfl⟩ := h₁
  have hS : (s.heap.push { cls := .type "list", data := .seq #[] }).get? s.heap.objs.size = some { cls := .type "list", data := .seq #[] } := Heap.get?_push_size _ rfl
  have kp : ∀ b o, s.heap.get? b = some o → (s.heap.push { cls := .type "list", data := .seq #[] }).get? b = some o := fun b o x => Heap.get?_push_of_some _ x
  have L : Low e it l s.heap.objs.size := ⟨Heap.lt_size hz, (let ⟨_, x, _⟩ := h1; Heap.lt_size x), (let ⟨_, x, _⟩ := hl1; Heap.lt_size x)⟩
  refine ⟨⟨_, hS, rfl⟩, PySem.F.args_list_init_2 _ _, init (A := A.in1) hh hei hle hli L hn ⟨h1.at fun o x => kp _ o x, hl1.at fun o x => kp _ o x, .inl ⟨_, kp _ _ hz⟩⟩ (kp _ _ hz) hS (fun h' tk acc c as hk hS' hl hG hacc => ?_)⟩
  exact ⟨rfl, hQ h' tk acc c as (fun b o c1 c2 x => hk b o (Nat.ne_of_lt (Heap.lt_size x)) c1 c2 (kp b o x)) hS' hl hG hacc⟩
end
end UP.Le
namespace UP
open PySem PySem.Spec PyProof.Rows L2
def putE' : Hp → List Addr → List (Nat × V) → Hp
  | H, a :: as, p :: kvs => putE' (upd H a (.tup [.int (p.1 : Nat), p.2])) as kvs
  | H, _, _ => H
theorem putE'_off {b : Addr} : ∀ (as : List Addr) (kvs : List (Nat × V)) (H : Hp), b ∉ as → putE' H as kvs b = H b
  | [], _, _, _ => rfl
  | _ :: _, [], _, _ => rfl
  | a :: as, p :: kvs, H, h => by
    show putE' (upd H a (.tup [.int (p.1 : Nat), p.2])) as kvs b = H b
    rw [putE'_off as kvs _ (fun z => h (List.mem_cons_of_mem _ z)), upd_ne (fun z => h (by rw [z]; exact List.mem_cons_self))]
def EnTup (H : Hp) (t : Addr) (p : Nat × V) : Prop := H t = some (.tup [.int (p.1 : Nat), p.2])
theorem putE'_at : ∀ (as : List Addr) (kvs : List (Nat × V)) (H : Hp), as.length = kvs.length → as.Nodup → Paired (EnTup (putE' H as kvs)) as kvs
  | [], [], _, _, _ => .nil
  | [], _ :: _, _, h, _ => by cases h
  | _ :: _, [], _, h, _ => by cases h
  | a :: as, p :: kvs, H, h, hn => by
    have hn' := List.nodup_cons.mp hn
    have ih := putE'_at as kvs (upd H a (.tup [.int (p.1 : Nat), p.2])) (Nat.succ.inj h) hn'.2
    refine .cons ?_ ih
    show putE' (upd H a (.tup [.int (p.1 : Nat), p.2])) as kvs a = some (.tup [.int (p.1 : Nat), p.2])
    rw [putE'_off as kvs _ hn'.1, upd_same]
/-- the list xs with the numbers of its items -/
def numV (xs : List V) : List (Nat × V) := (List.range xs.length).zip xs
theorem numV_len (xs : List V) : (numV xs).length = xs.length := by
  unfold numV
  rw [List.length_zip, List.length_range, Nat.min_self]
theorem numV_at {xs : List V} {j : Nat} {p : Nat × V} (h : (numV xs)[j]? = some p) : p.1 = j ∧ xs[j]? = some p.2 := by
  unfold numV at h
  obtain ⟨h1, h2⟩ := List.getElem?_zip_eq_some.mp h
  have hj : j < xs.length := (List.getElem?_eq_some_iff.mp h2).1
  rw [List.getElem?_range hj] at h1
  exact ⟨(Option.some.inj h1).symm, h2⟩
theorem numV_get {xs : List V} {j : Nat} {x : V} (h : xs[j]? = some x) : (numV xs)[j]? = some (j, x) := by
  have hj : j < xs.length := (List.getElem?_eq_some_iff.mp h).1
  unfold numV
  exact List.getElem?_zip_eq_some.mpr ⟨List.getElem?_range hj, h⟩
def tListEnum (ta : TA) : TE := fun σ H Q => ta σ H fun vs H1 => ∃ a xs, vs = [.ref a] ∧ H1 a = some (.lst xs) ∧ 
  ∀ (H' : Hp) (p : Addr) (ts : List Addr), Same H1 H' → H1 p = none → (∀ t ∈ ts, H1 t = none) → H' p = some (.lst (ts.map V.ref)) → Paired (EnTup H') ts (numV xs) → Q (.ref p) H'
section
variable {X : Cx} {e : Expr} {ta : TA} {p p2 pos pos2 : Pos}
theorem enum_laid {pins : List (Addr × Obj)} {σ : L2.St} {H : Hp} {s : Shared} {h' : Heap} {tk : Nat} {xs : List V} {us : List Value} {acc : Array Value} {c : Nat} {as : List Addr} (I : Inv X pins σ H s) (hz : xs.length ≤ sizeLine) (rx : Vals xs us) {S : Addr} (lS : s.heap.objs.size ≤ S)
    (hk : ∀ b o, s.heap.get? b = some o → h'.get? b = some o) (hS : h'.get? S = some { cls := .type "list", dict := none, data := .seq acc c, slots := #[] }) (hl : as.length = us.length) (hG : Le.Got us.toArray S h' as) (hacc : acc.toList = as.map Value.ref) :
    ∃ H' : Hp, Same H H' ∧ H S = none ∧ (∀ t ∈ as, H t = none) ∧ H' S = some (.lst (as.map V.ref)) ∧ Paired (EnTup H') as (numV xs) ∧ Inv X pins σ H' { s with heap := h', toks := tk } := by
  have lk : xs.length = us.length := Paired.length rx
  have lz : (numV xs).length = xs.length := numV_len xs
  have hSn : S ∉ as := fun z => Nat.lt_irrefl _ (hG.above _ z)
  have nd : as.Nodup := List.Pairwise.imp (fun {a b} (h : a < b) => Nat.ne_of_lt h) hG.rise
  have new : ∀ t ∈ as, H t = none := fun t ht => I.hok.fresh (Nat.le_trans lS (Nat.le_of_lt (hG.above t ht)))
  have newS : H S = none := I.hok.fresh lS
  have atP := putE'_at as (numV xs) (upd H S (.lst (as.map V.ref))) (by omega) nd
  have off : ∀ b, b ∉ as → b ≠ S → putE' (upd H S (.lst (as.map V.ref))) as (numV xs) b = H b := fun b h1 h2 => by rw [putE'_off as _ _ h1, upd_ne h2]
  have low : ∀ b o, s.heap.get? b = some o → b ∉ as ∧ b ≠ S := fun b o x => ⟨fun z => absurd (Heap.lt_size x) (Nat.not_lt.mpr (Nat.le_trans lS (Nat.le_of_lt (hG.above b z)))), Nat.ne_of_lt (Nat.lt_of_lt_of_le (Heap.lt_size x) lS)⟩
  have kp : ∀ b u, H b = some u → (putE' (upd H S (.lst (as.map V.ref))) as (numV xs)) b = some u := fun b u x => by
    rw [off b (fun z => by rw [new b z] at x; cases x) (fun z => by rw [z, newS] at x; cases x)]
    exact x
  have eS : putE' (upd H S (.lst (as.map V.ref))) as (numV xs) S = some (.lst (as.map V.ref)) := by rw [putE'_off as _ _ hSn, upd_same]
  refine ⟨putE' (upd H S (.lst (as.map V.ref))) as (numV xs), kp, newS, new, eS, atP, ?_⟩
  refine I.call' (ch := []) rfl ⟨fun b o q _ _ _ => hk b o q, fun b o q _ _ _ => ⟨o.slots, hk b o q⟩, fun b o q n _ => ?_, fun b o q _ => ⟨o, hk b o q⟩, fun b xs q => kp b _ q, fun b o u q => kp b _ q, fun b ps q => ⟨#[], by rw [kp b _ q]; simp⟩⟩ (fun b u q => ?_) I.bare fun b z => by simp at z
  · obtain ⟨z1, z2⟩ := low b o q
    rw [off b z1 z2]
    exact n
  · by_cases hb : b ∈ as
    · obtain ⟨j, pk, e1, e2, e3⟩ := LiI.paired_ix atP hb
      rw [show putE' (upd H S (.lst (as.map V.ref))) as (numV xs) b = _ from e3] at q
      cases q
      obtain ⟨t, x, f1, f3⟩ := hG.pairs j b e1
      obtain ⟨g1, g2⟩ := numV_at e2
      have f1 : us[j]? = some x := by simpa using f1
      obtain ⟨x', k1, r1⟩ := rx.get g2
      rw [f1] at k1
      cases k1
      refine ⟨by show 2 ≤ sizeLine; decide, [.int j t, x], .cons ?_ (.cons r1 .nil), ⟨_, f3, rfl, _, rfl⟩⟩
      rw [g1]
      exact ⟨t, rfl⟩
    · by_cases hb2 : b = S
      · rw [hb2] at q ⊢
        rw [eS] at q
        cases q
        refine ⟨by rw [List.length_map]; omega, acc.toList, c, by rw [hacc]; exact LiI.vals_refs as, ?_⟩
        rw [Array.toArray_toList]
        exact hS
      · rw [off b hb hb2] at q
        exact (I.hok b u q).stay (fun d v _ y => hk d v y) (fun d y => kp d _ y) fun d xs y => kp d _ y
theorem pe_listEnum (calm : X.calm = true) (hg : Gl X "list") (hm : X.mg "list" = none) (hg2 : Gl X "enumerate") (hm2 : X.mg "enumerate" = none) (ha : PA X [e] ta)
    (hs : starEach [e] X.env = (false, eval e X.env) :: starEach [] X.env := by rfl) (hpl : (backTo pos2 (starEach [] X.env)).any (·.1) = false := by rfl)
    (na : starEach [.Call (.Name "enumerate" p2) [e] [] pos2] X.env = (false, eval (.Call (.Name "enumerate" p2) [e] [] pos2) X.env) :: starEach [] X.env := by rfl) :
    PE X (.Call (.Name "list" p) [.Call (.Name "enumerate" p2) [e] [] pos2] [] pos) (tListEnum ta) := by
  constructor
  intro pins s σ H Q I h
  refine Call_ (ld_blt I hg hm boot_list (PyProof.Rows.callWith_type1 (args_cons ?_ na) na))
  refine Call_ (ld_blt I hg2 hm2 boot_enumerate (PyProof.Rows.callWith_type1 (thn (ha.run pos2 pins s σ H _ I h) fun us s1 ⟨vs, H1, I1, r1, q1⟩ => ?_) hs hpl))
  obtain ⟨a, xs, rfl, h1, q⟩ := q1
  cases r1 with
  | @cons _ u1 _ _ ru1 rr =>
      cases rr
      cases (show u1 = Value.ref a from ru1)
      obtain ⟨l1, us, c1, rx, ax⟩ := I1.hok a _ h1
      have lx : us.toArray.size = xs.length := by rw [List.size_toArray]; exact (Paired.length rx).symm
      have il1 : s1.heap.IsList a us.toArray := ⟨_, ax, rfl, _, rfl⟩
      have al : a < s1.heap.objs.size := Heap.lt_size ax
      refine call_enumerate_list il1 fun h' he hit hsz hk => args_nil ?_
      have lz : s1.heap.objs.size ≤ h'.objs.size := by omega
      refine Le.call (s := { s1 with heap := h' }) (I1.ok.hd calm) (Nat.succ_ne_self _) (Nat.ne_of_lt (Nat.lt_succ_of_lt al)) (Nat.ne_of_lt al) (by omega) he hit (il1.at fun o x => hk _ o x) fun h2 tk acc c as hk2 hS hl hG hacc => ?_
      obtain ⟨H', k1, k2, k3, k4, k5, J⟩ := enum_laid (tk := tk) I1 (by omega) rx lz (fun b o x => hk2 b o (Nat.ne_of_lt (Nat.lt_succ_of_lt (Heap.lt_size x))) (Nat.ne_of_lt (Heap.lt_size x)) (hk b o x)) hS (by rw [hl, List.size_toArray]) hG hacc
      exact ⟨.ref _, H', J, rfl, q H' _ as k1 k2 k3 k4 k5⟩
end
end UP

set_option Elab.async false
set_option linter.all false
set_option maxRecDepth 100000
set_option maxHeartbeats 4000000
set_option pp.maxSteps 500
namespace UP
open PySem PySem.Spec PyProof.Rows L2
/-- repr of a number, a list or a tuple -/
def rReprN (K : PySem.W.Frag) : List V → Hp → VK → Prop := fun xs H Q => (∃ i : Int, xs = [.int i] ∧ i.natAbs.log2 < 1920 ∧ Q (.str (toString i)) H) ∨ rRepr K xs H Q
theorem call_reprN {X : Cx} (hg : X.A.guards = some []) (hu : X.A.units + 70 < cLine) : CallR X (.builtin "repr") (rReprN X.K) := by
  intro pins s σ H xs us Q I r h
  rcases h with h | h
  · exact SkE.call_repr_int pins s σ H xs us Q I r h
  · exact call_reprD hg hu pins s σ H xs us Q I r h
theorem op_notInDK {X : Cx} {K : PySem.W.Frag} (h : X.K = K) (hu : X.A.units + 65 < cLine) : OpR X (compareOp .NotIn) (rNotInD K) := h ▸ op_notInD hu
/-! ### the heap without the bag -/
def delA (p : Addr) (H : Hp) : Hp := fun a => if a = p then none else H a
theorem del_ne {p a : Addr} {H : Hp} (n : a ≠ p) : delA p H a = H a := if_neg n
theorem del_at {p a : Addr} {H : Hp} {o : HO} (n : a ≠ p) (h : H a = some o) : delA p H a = some o := (del_ne n).trans h
theorem del_same {p : Addr} {H H' : Hp} (b : But p H H') : Same (delA p H) H' := fun a o e => by
  unfold delA at e
  split at e
  · cases e
  · next n => exact b _ _ n e
theorem sq_del {p a : Addr} {H : Hp} {xs : List V} (n : a ≠ p) (h : Sq2 H a xs) : Sq2 (delA p H) a xs := h.elim (fun z => .inl (del_at n z)) (fun z => .inr (del_at n z))
theorem eng_del {p : Addr} {H : Hp} : ∀ {xs : List V} {es : List En}, Paired (EnG H) xs es → (∀ x ∈ xs, x ≠ .ref p) → Paired (EnG (delA p H)) xs es
  | _, _, .nil, _ => .nil
  | x :: xs, e :: es, .cons h t, n => by
    obtain ⟨u, rfl, hu⟩ := h
    have : u ≠ p := fun z => n _ (List.mem_cons_self ..) (by rw [z])
    exact .cons ⟨u, rfl, sq_del this hu⟩ (eng_del t fun y hy => n y (List.mem_cons_of_mem _ hy))
theorem env_del {p : Addr} {H : Hp} {l : List V} (hp : H p = some (.lst l)) {xs : List V} {es : List En} (h : Paired (EnV H) xs es) : Paired (EnV (delA p H)) xs es := Paired.imp (fun _ _ z => z.tk fun t ys e => del_at (ne_of e hp (by intro y; cases y)) e) h
/-! ### data, listed or in tuples -/
def koDD : Option Str → PyData
  | none => .none
  | some k => .str k
theorem dp_koD {K : PySem.W.Frag} {H : Hp} (k : Option Str) : Dp K H (koV k) (koDD k) := by
  cases k with
  | none => exact .non
  | some k => exact .str k
theorem nice_koD {k : Option Str} (h : ∀ x, k = some x → KindOk x) : Nice 8 0 (koDD k) := by
  cases k with
  | none => exact nice_none.mono (by decide) (Nat.le_refl _)
  | some k => exact nice_str (h k rfl)
/-- a value is this data, now and later -/
def DpLt (K : PySem.W.Frag) (H : Hp) (v : V) (d : PyData) : Prop := ∀ H', Same H H' → Dp K H' v d
def DpAS (K : PySem.W.Frag) (H : Hp) (vs : List V) (ds : List PyData) : Prop := ∀ H', Same H H' → DpAll K H' vs ds
theorem dp_sq {K : PySem.W.Frag} {H : Hp} {a : Addr} {xs : List V} {ds : List PyData} {w n : Nat} (h : Sq2 H a xs) (p : DpAS K H xs ds) (g : ∀ d ∈ ds, Nice w n d) : ∃ d, DpLt K H (.ref a) d ∧ Nice ((w + 1) * ds.length) (n + 1) d :=
  h.elim (fun z => ⟨.list ds, fun H' s => .lst (.of (s _ _ z)) (p H' s), nice_list g⟩) (fun z => ⟨.tuple ds, fun H' s => .tup (.of (s _ _ z)) (p H' s), nice_tup g⟩)
theorem dp_eng {K : PySem.W.Frag} {H : Hp} {v : V} {e : En} (h : EnG H v e) (ok : EnOk e) : ∃ d, DpLt K H v d ∧ Nice 18 1 d := by
  obtain ⟨t, rfl, h⟩ := h
  exact dp_sq (ds := [koDD e.1, .str (actS e.2)]) (w := 8) (n := 0) h (fun _ _ => .cons (dp_koD _) (.cons (.str _) .nil)) fun d hd => by
    simp only [List.mem_cons, List.not_mem_nil, or_false] at hd
    rcases hd with z | z
    · rw [z]; exact nice_koD ok
    · rw [z]; exact nice_str (act_ok _)
theorem dp_engs {K : PySem.W.Frag} {H : Hp} : ∀ {xs : List V} {es : List En}, Paired (EnG H) xs es → (∀ e ∈ es, EnOk e) → ∃ ds, DpAS K H xs ds ∧ ds.length = es.length ∧ ∀ d ∈ ds, Nice 18 1 d
  | _, _, .nil, _ => ⟨[], fun _ _ => .nil, rfl, fun d h => by cases h⟩
  | _, _, .cons h t, ok => by
    obtain ⟨d, h1, h2⟩ := dp_eng (K := K) h (ok _ (List.mem_cons_self ..))
    obtain ⟨ds, g1, g2, g3⟩ := dp_engs (K := K) t fun e he => ok e (List.mem_cons_of_mem _ he)
    refine ⟨d :: ds, fun H' s => .cons (h1 H' s) (g1 H' s), congrArg (· + 1) g2, fun x hx => ?_⟩
    rcases List.mem_cons.mp hx with z | z
    · rw [z]; exact h2
    · exact g3 x z
theorem Nice.up {w n w' n' : Nat} {d : PyData} (h : Nice w n d) (h1 : w ≤ w') (h2 : n ≤ n') : Nice w' n' d := h.mono h1 h2
/-- the kinds and the record that are passed, as data -/
theorem dp_passed {K : PySem.W.Frag} {H : Hp} {PA k1 r1 : Addr} {ks : List Str} {xs : List V} {es : List En} (hP : H PA = some (.lst [.ref k1, .ref r1])) (hk : Sq2 H k1 (ks.map V.str)) (ok : ∀ k ∈ ks, KindOk k) (l12 : ks.length ≤ 12) (hr : Sq2 H r1 xs) (hx : Paired (EnG H) xs es) (oke : ∀ e ∈ es, EnOk e) (l4 : es.length ≤ 400) : ∃ d, DpLt K H (.ref PA) d ∧ d.showable = true ∧ SeqAt.shaped d = true ∧ d.shown.length ≤ sizeLine := by
  obtain ⟨dk, a1, a2⟩ := dp_sq (K := K) (ds := ks.map PyData.str) (w := 8) (n := 0) hk (fun _ _ => dp_strl _) fun d hd => by
    obtain ⟨k, hk, rfl⟩ := List.mem_map.mp hd
    exact nice_str (ok k hk)
  obtain ⟨ds, g1, g2, g3⟩ := dp_engs (K := K) hx oke
  obtain ⟨dr, b1, b2⟩ := dp_sq (K := K) hr g1 g3
  rw [List.length_map] at a2
  have c : Nice ((7600 + 1) * 2) 3 (.list [dk, dr]) := nice_list (w := 7600) (n := 2) (ds := [dk, dr]) fun d hd => by
    simp only [List.mem_cons, List.not_mem_nil, or_false] at hd
    rcases hd with z | z
    · rw [z]; exact a2.up (by omega) (by decide)
    · rw [z]; exact b2.up (by rw [g2]; omega) (by decide)
  obtain ⟨f1, f2, f3⟩ := c.fits (by decide) (by decide)
  exact ⟨_, fun H' s => .lst (.of (s _ _ hP)) (.cons (a1 H' s) (.cons (b1 H' s) .nil)), f1, f2, f3⟩
theorem strs_fits {l : List Str} (h : ∀ k ∈ l, KindOk k) (l4 : l.length ≤ 400) : (PyData.list (l.map .str)).showable = true ∧ SeqAt.shaped (.list (l.map .str)) = true ∧ (PyData.list (l.map .str)).shown.length ≤ sizeLine := by
  refine Nice.fits (nice_list (w := 8) (n := 0) (ds := l.map PyData.str) fun d hd => ?_) (by rw [List.length_map]; omega) (by decide)
  obtain ⟨k, hk, rfl⟩ := List.mem_map.mp hd
  exact nice_str (h k hk)
theorem cutV_tk (l : List V) (m : Int) (h0 : 0 ≤ m) : cutV l none (some m) = l.take m.toNat := by
  unfold cutV
  show (l.drop (HT.sIx _ 0 none)).take (HT.sIx _ _ (some m) - HT.sIx _ 0 none) = _
  have e0 : HT.sIx l.length 0 none = 0 := rfl
  have e1 : HT.sIx l.length l.length (some m) = min m.toNat l.length := by
    show (if m < 0 then (m + (l.length : Int)).toNat else min m.toNat l.length) = _
    rw [if_neg (by omega)]
  rw [e0, List.drop_zero, Nat.sub_zero, e1]
  rcases Nat.le_total m.toNat l.length with h | h
  · rw [Nat.min_eq_left h]
  · rw [Nat.min_eq_right h, List.take_length, List.take_of_length_le h]
theorem gen_in {ks : List Str} {es : List En} (nd : ks.Nodup) (ik : InK ks es) {row : List Str} (h : row ∈ genE ks (epsE es)) : row ∈ allC ks es.length := by
  rw [← due_law nd ik] at h
  exact (List.mem_filter.mp (List.mem_filter.mp h).1).1
theorem rows_ne {p : Addr} {H : Hp} {cl : Addr} {n : Nat} (z : Bag H p cl n) {refs : List V} {rows : List (List Str)} (h : Paired (StrsV H) refs rows) : ∀ t, V.ref t ∈ refs → t ≠ p := fun t ht e => by
  obtain ⟨q, h1, _⟩ := z
  obtain ⟨i, hi⟩ := List.getElem?_of_mem ht
  obtain ⟨row, _, t', e', h'⟩ := Paired.at h hi
  cases e'
  rw [e, h1] at h'
  have h' := HO.lst.inj (Option.some.inj h')
  cases row with
  | nil => cases h'
  | cons x r => cases (List.cons.inj h').1
end UP

set_option Elab.async false
set_option linter.all false
set_option maxRecDepth 100000
set_option maxHeartbeats 8000000
set_option pp.maxSteps 500
namespace UP
open PySem PySem.Spec PyProof.Rows L2
/-! ### _law_conflict -/
theorem asg_val {te : TE} {i : Nat} {rest : TS} {D : Ends} {σ : L2.St} {H : Hp} (Ok : V → Hp → Prop) (h : ∀ Q : VK, (∀ v H', Ok v H' → Q v H') → te σ H Q) (k : ∀ v H', Ok v H' → rest D (σ.set i (some v)) H') : tSeq (tAsg te (gName i)) rest D σ H := h _ k
theorem ifS_orH {c1 c2 : TT} {t u : TS} {D : Ends} {σ : L2.St} {H : Hp} {b1 b2 : Bool} (S : Hp → Prop) (h1 : ∀ R : Bool → Hp → Prop, (∀ H', S H' → R b1 H') → c1 σ H R) (h2 : ∀ (R : Bool → Hp → Prop) (H' : Hp), S H' → (∀ H'', S H'' → R b2 H'') → c2 σ H' R) (k1 : (b1 || b2) = true → ∀ H', S H' → t D σ H') (k2 : (b1 || b2) = false → ∀ H', S H' → u D σ H') : tIfS (tOr c1 c2) t u D σ H := by
  refine h1 _ fun H' s => ?_
  cases b1 with
  | true => exact iteT (iteT (k1 rfl _ s))
  | false =>
    refine iteF (h2 _ _ s fun H'' s2 => ?_)
    cases b2 with
    | true => exact iteT (k1 rfl _ s2)
    | false => exact iteF (k2 rfl _ s2)
theorem nv_dec0 (n : Nat) : decide (V.int (n : Nat) = V.int 0) = decide (n = 0) := decide_eq_decide.mpr ⟨fun h => by have := V.int.inj h; omega, fun h => by rw [h]; rfl⟩
theorem cut_to {xs : List V} {f l : Nat} (h1 : f ≤ l) (h2 : l < xs.length) : cutV xs (some (f : Int)) (some ((l : Int) + 1)) = (xs.drop f).take (l + 1 - f) := by
  rw [show (l : Int) + 1 = ((l + 1 : Nat) : Int) by omega, cut_fl h1 h2]
theorem cut_fi {xs : List V} {f i : Nat} (h1 : f ≤ i) (h2 : i ≤ xs.length) : cutV xs (some (f : Int)) (some (i : Int)) = (xs.drop f).take (i - f) := by
  unfold cutV
  rw [HT.sIx_nat, HT.sIx_nat, show min f xs.length = f by omega, show min i xs.length = i by omega]
theorem ko_flat (k : Option Str) : flatV (koV k) = true := by cases k <;> rfl
theorem in_two (x k : Option Str) : inV (koV x) [V.non, koV k] = (x.isNone || decide (x = k)) := by
  cases x with
  | none => cases k <;> rfl
  | some x =>
    cases k with
    | none => rfl
    | some k =>
      unfold inV
      by_cases e : x = k
      · subst e
        simp [eqV, koV]
      · have e2 : ¬ k = x := fun z => e z.symm
        simp [eqV, koV, e, e2]
/-- the entries whose kind is known and who do so -/
def entE (ep : List En) (b : Bool) : List En := ep.filter fun e => decide (e.2 = b) && e.1.isSome
theorem ent_kn (b : Bool) : ∀ ep : List En, (entE ep b).length = (knE ep b).length
  | [] => rfl
  | e :: t => by
    have ih := ent_kn b t
    unfold entE knE at *
    rw [List.filter_cons, List.filterMap_cons]
    by_cases c : e.2 = b
    · rw [if_pos c, decide_eq_true c, Bool.true_and]
      cases h : e.1 with
      | none => exact ih
      | some k => exact congrArg (· + 1) ih
    · rw [if_neg c, decide_eq_false c]
      exact ih
theorem ent_emp {ep : List En} {b : Bool} : (entE ep b).isEmpty = decide (knE ep b = []) := by
  have := ent_kn b ep
  cases h1 : entE ep b with
  | nil =>
    rw [h1] at this
    rw [decide_eq_true (List.length_eq_zero_iff.mp this.symm)]
    rfl
  | cons e t =>
    rw [h1] at this
    rw [decide_eq_false fun z => by rw [z] at this; cases this]
    rfl
theorem drop_pair {α β : Type} {F : α → β → Prop} : ∀ {xs : List α} {ys : List β} (n : Nat), Paired F xs ys → Paired F (xs.drop n) (ys.drop n)
  | _, _, 0, h => h
  | _, _, n + 1, .nil => .nil
  | _, _, n + 1, .cons _ h => drop_pair n h
theorem take_pair {α β : Type} {F : α → β → Prop} : ∀ {xs : List α} {ys : List β} (n : Nat), Paired F xs ys → Paired F (xs.take n) (ys.take n)
  | _, _, 0, _ => .nil
  | _, _, n + 1, .nil => .nil
  | _, _, n + 1, .cons a h => .cons a (take_pair n h)
theorem env_g {H : Hp} {v : V} {e : En} (h : EnV H v e) : EnG H v e := by
  obtain ⟨t, rfl, h⟩ := h
  exact ⟨t, rfl, .inr h⟩
theorem cf_at {ks : List Str} {es : List En} {i : Nat} {c : Cf} (h : cAt ks es i = some c) (h0 : ∀ j, j < i → cAt ks es j = none) (hi : i < es.length) : cfE ks es = some c := by
  rw [cfE_scan]
  exact find_first h0 h hi
/-- the part of the numbered record, its items -/
def PrtV (H : Hp) (es : List En) (v : V) (j : Nat) : Prop := ∃ t u, v = .ref t ∧ H t = some (.tup [.int (j : Nat), .ref u]) ∧ H u = some (.tup [koV (enA es j).1, .str (actS (enA es j).2)])
theorem PrtV.same {H H' : Hp} {es : List En} {v : V} {j : Nat} (s : Same H H') (h : PrtV H es v j) : PrtV H' es v j := by
  obtain ⟨t, u, e, h1, h2⟩ := h
  exact ⟨t, u, e, s _ _ h1, s _ _ h2⟩
theorem rng_part {f i n : Nat} (h1 : f ≤ i) (h2 : i ≤ n) : ((List.range n).drop f).take (i - f) = List.range' f (i - f) := by
  refine List.ext_getElem? fun j => ?_
  rw [List.getElem?_take, List.getElem?_drop]
  by_cases c : j < i - f
  · rw [if_pos c, List.getElem?_range (by omega), List.getElem?_eq_getElem (by rw [List.length_range']; exact c), List.getElem_range']
    simp
  · rw [if_neg c, List.getElem?_eq_none (by rw [List.length_range']; omega)]
theorem dp_nats {K : PySem.W.Frag} {H : Hp} : ∀ l : List Nat, DpAll K H (l.map nvV) (l.map fun n : Nat => .int (n : Int))
  | [] => .nil
  | n :: t => .cons (.int _) (dp_nats t)
theorem shaped_nats {l : List Nat} {m : Nat} (h : l.length ≤ 400) (hm : ∀ n ∈ l, n ≤ m) (h2 : m ≤ 400) : SeqAt.shaped (.list (l.map fun n : Nat => .int (n : Int))) = true := by
  refine (Nice.fits (nice_list (w := 201) (n := 0) (ds := l.map fun n : Nat => PyData.int (n : Int)) fun d hd => ?_) (by rw [List.length_map]; omega) (by decide)).2.1
  obtain ⟨n, hn, rfl⟩ := List.mem_map.mp hd
  have := hm n hn
  exact nice_int (by rw [Int.natAbs_natCast]; exact Nat.lt_of_le_of_lt (show n ≤ 400 by omega) (by decide +kernel))
theorem wO_le (es : List En) (f i : Nat) : ∀ n ∈ wO es f i, n ≤ i := fun n hn => by
  have := List.mem_range'_1.mp (List.mem_filter.mp hn).1
  omega
theorem lO_le (es : List En) (f i : Nat) : ∀ n ∈ lO es f i, n ≤ i := fun n hn => by
  have := List.mem_range'_1.mp (List.mem_filter.mp hn).1
  omega
theorem paired_ofix {α β : Type} {F : α → β → Prop} : ∀ {xs : List α} {ys : List β}, xs.length = ys.length → (∀ (i : Nat) (x : α) (y : β), xs[i]? = some x → ys[i]? = some y → F x y) → Paired F xs ys
  | [], [], _, _ => .nil
  | [], _ :: _, h, _ => by cases h
  | _ :: _, [], h, _ => by cases h
  | _ :: _, _ :: _, h, g => .cons (g 0 _ _ rfl rfl) (paired_ofix (Nat.succ.inj h) fun i x y hx hy => g (i + 1) x y hx hy)
theorem asg_valL {te : TE} {i : Nat} {D : Ends} {σ : L2.St} {H : Hp} (Ok : V → Hp → Prop) (h : ∀ Q : VK, (∀ v H', Ok v H' → Q v H') → te σ H Q) (k : ∀ v H', Ok v H' → D.nx (σ.set i (some v)) H') : tAsg te (gName i) D σ H := h _ k
section
variable {P : Program} {w : World} {K : PySem.W.Frag} {mg : Str → Option Value} {base : Heap}
/-! _law_conflict: slots 0:kinds 1:record 2:level 3:first 4:i 5:part 6:others 7:whole 8:known 9:gone 10:kind 11:action 12:one 13:j -/
abbrev s_law_conflict : Stmt := topS 44
theorem sc_law_conflict : FnScope ["kinds", "record", "level", "first", "i", "part", "others", "whole", "known", "gone", "kind", "action", "one", "j"] ["kinds", "record"] (defScope s_law_conflict) := ⟨rfl, rfl, rfl, by decide +kernel, rfl, by decide +kernel, by decide +kernel⟩
def sp_law_conflict : Sp := fun vs H Q _ => ∃ (a b : Addr) (ks : List Str) (es : List En), vs = [.ref a, .ref b] ∧ H a = some (.lst (ks.map V.str)) ∧ KsOk ks ∧ Rec H b es ∧ InK ks es ∧ es.length ≤ 400 ∧ ∀ H' v, Same H H' → CfO H' v (cfE ks es) → Q v H'
theorem ok_law_conflict (D : Df K mg "_law_conflict" s_law_conflict) (T : Tx mg) : Has P w K mg base 1 "_law_conflict" ["kinds", "record"] sp_law_conflict := by
  refine has_of D sc_law_conflict (fun _ _ _ _ _ _ us hl => match us, hl with | [_, _], _ => rfl) (fun vs H Q E h => ?_) (fun f cdv A outer s₀ H vs Q E hr h => ?_)
  · obtain ⟨_, _, _, _, rfl, _⟩ := h
    rfl
  · obtain ⟨a, b, ks, es, rfl, ha, kso, ⟨xs, hx, hxp⟩, ik, l4, q⟩ := h
    have nd := ks_nodup kso
    have l0 := kso.1
    have k12 := kso.2.1
    have lx := Paired.len hxp
    have oke : ∀ e ∈ es, EnOk e := fun e he k hk => kso.2.2.1 k (ik e he k hk)
    have fin : ∀ {H1 : Hp} {c : Cf} {i : Nat} {t : Addr}, cAt ks es i = some c → (∀ j, j < i → cAt ks es j = none) → i < es.length → Same H H1 → H1 t = none → Q (.ref t) (upd H1 t (.tup (cfL c))) := fun h1 h2 h3 s1 nt => by
      refine q _ _ (s1.trans (same_upd nt)) ?_
      rw [cf_at h1 h2 h3]
      exact ⟨_, rfl, upd_same⟩
    refine ⟨_, (pss_cons (ps_asg (pe_tup (pa_cons pe_int (pa_cons pe_int pa_nil))) (pg_tup rfl (pgs_cons (pg_name (i := 2) sc_law_conflict.nd rfl (by first | exact Or.inl rfl | exact Or.inr rfl)) (pgs_cons (pg_name (i := 3) sc_law_conflict.nd rfl (by first | exact Or.inl rfl | exact Or.inr rfl)) pgs_nil))))
    (pss_cons (ps_for PassesOwn.never rfl (pi_enum (by rfl) T.n_enumerate (pa_cons (pv 1) pa_nil)) (pg_tup rfl (pgs_cons (pg_name (i := 4) sc_law_conflict.nd rfl (by first | exact Or.inl rfl | exact Or.inr rfl)) (pgs_cons (pg_tup rfl (pgs_cons (pg_name (i := 10) sc_law_conflict.nd rfl (by first | exact Or.inl rfl | exact Or.inr rfl)) (pgs_cons (pg_name (i := 11) sc_law_conflict.nd rfl (by first | exact Or.inl rfl | exact Or.inr rfl)) pgs_nil))) pgs_nil)))
      (pss_cons (ps_set (i := 3) sc_law_conflict.nd rfl (by first | exact Or.inl rfl | exact Or.inr rfl) (pe_ifExp (pt_cmpR op_eq (pv 2) pe_int (nomark _)) (pv 4) (pv 3)))
    (pss_cons (ps_if (PW.pt (pw_and (pt_cmpR op_eq (pv 11) pe_str (nomark _)) (pw_and1 (pt_cmpR op_eq (pv 2) pe_int (nomark _))))) (pss_one (ps_ret (pe_tup (pa_cons pe_str (pa_cons (pv 4) pa_nil))))) pss_nil)
    (pss_cons (ps_set (i := 5) sc_law_conflict.nd rfl (by first | exact Or.inl rfl | exact Or.inr rfl) (pe_slice sl_list (pe_listEnum (by rfl) (by rfl) T.n_list (by rfl) T.n_enumerate (pa_cons (pv 1) pa_nil)) (po_some (pv 3)) (po_some (pv 4))))
    (pss_cons (ps_setLc (i := 6) (own := [("j", 13), ("one", 12)]) rfl sc_law_conflict.nd rfl rfl (sw_true rfl rfl rfl (by decide +kernel)) (pi_list (pv 5)) (blkOk_by (N := ["kinds", "record", "level", "first", "i", "part", "others", "whole", "known", "gone", "kind", "action", "one", "j"]) (sc := defScope s_law_conflict) (by decide +kernel)) (fun _ _ _ _ _ => (pg_tupK (K := K) (n := 2) rfl rfl (pgs_cons (pg_name (i := 13) sc_law_conflict.nd rfl (by first | exact Or.inl rfl | exact Or.inr rfl)) (pgs_cons (pg_name (i := 12) sc_law_conflict.nd rfl (by first | exact Or.inl rfl | exact Or.inr rfl)) pgs_nil)))) (fun _ _ _ _ _ => pts_one (PW.pt (pw_and (pt_cmpR op_eq (pe_ix (ix_tupK (K := K) rfl) (pv 12) pe_int (fun _ _ => rfl)) pe_str (nomark _)) (pw_and1 (pt_cmpR (op_notIn_seqK (K := K) rfl) (pe_ix (ix_tupK (K := K) rfl) (pv 12) pe_int (fun _ _ => rfl)) (pe_tup (pa_cons pe_non (pa_cons (pv 10) pa_nil))) (by with_unfolding_all rfl)))))) (fun _ _ _ _ _ => (pv 13)))
    (pss_cons (ps_if (PW.pt (pw_and (pt_cmpR op_notN (pv 10) pe_non (nomark _)) (pw_and (pt_cmpR op_eq (pv 11) pe_str (nomark _)) (pw_and1 (pt_cmpR (op_neD hr.units) (pv 6) (pe_lst pa_nil) (nomark _)))))) (pss_one (ps_ret (pe_tup (pa_cons pe_str (pa_cons (pe_ix ix_list (pv 6) pe_int (fun _ _ => rfl)) (pa_cons (pv 4) pa_nil)))))) pss_nil)
    (pss_cons (ps_setLc (i := 6) (own := [("j", 13), ("one", 12)]) rfl sc_law_conflict.nd rfl rfl (sw_true rfl rfl rfl (by decide +kernel)) (pi_list (pv 5)) (blkOk_by (N := ["kinds", "record", "level", "first", "i", "part", "others", "whole", "known", "gone", "kind", "action", "one", "j"]) (sc := defScope s_law_conflict) (by decide +kernel)) (fun _ _ _ _ _ => (pg_tupK (K := K) (n := 2) rfl rfl (pgs_cons (pg_name (i := 13) sc_law_conflict.nd rfl (by first | exact Or.inl rfl | exact Or.inr rfl)) (pgs_cons (pg_name (i := 12) sc_law_conflict.nd rfl (by first | exact Or.inl rfl | exact Or.inr rfl)) pgs_nil)))) (fun _ _ _ _ _ => pts_one (PW.pt (pw_and (pt_cmpR op_eq (pe_ix (ix_tupK (K := K) rfl) (pv 12) pe_int (fun _ _ => rfl)) (pv 10) (nomark _)) (pw_and1 (pt_cmpR op_ne (pe_ix (ix_tupK (K := K) rfl) (pv 12) pe_int (fun _ _ => rfl)) (pv 11) (nomark _)))))) (fun _ _ _ _ _ => (pv 13)))
    (pss_cons (ps_if (PW.pt (pw_and (pt_cmpR op_notN (pv 10) pe_non (nomark _)) (pw_and1 (pt_cmpR (op_neD hr.units) (pv 6) (pe_lst pa_nil) (nomark _))))) (pss_one (ps_ret (pe_tup (pa_cons pe_str (pa_cons (pe_ix ix_list (pv 6) pe_int (fun _ _ => rfl)) (pa_cons (pv 4) pa_nil)))))) pss_nil)
    (pss_cons (ps_set (i := 7) sc_law_conflict.nd rfl (by first | exact Or.inl rfl | exact Or.inr rfl) (pe_slice sl_list (pv 1) (po_some (pv 3)) (po_some (pe_op op_add (pv 4) pe_int))))
    (pss_cons (ps_setLc (i := 8) (own := [("one", 12)]) rfl sc_law_conflict.nd rfl rfl (sw_true rfl rfl rfl (by decide +kernel)) (pi_list (pv 7)) (blkOk_by (N := ["kinds", "record", "level", "first", "i", "part", "others", "whole", "known", "gone", "kind", "action", "one", "j"]) (sc := defScope s_law_conflict) (by decide +kernel)) (fun _ _ _ _ _ => (pg_name (i := 12) sc_law_conflict.nd rfl (by first | exact Or.inl rfl | exact Or.inr rfl))) (fun _ _ _ _ _ => pts_one (PW.pt (pw_and (pt_cmpR op_eq (pe_ix (ix_tupK (K := K) rfl) (pv 12) pe_int (fun _ _ => rfl)) pe_str (nomark _)) (pw_and1 (pt_cmpR op_notN (pe_ix (ix_tupK (K := K) rfl) (pv 12) pe_int (fun _ _ => rfl)) pe_non (nomark _)))))) (fun _ _ _ _ _ => (pv 12)))
    (pss_cons (ps_setLc (i := 9) (own := [("one", 12)]) rfl sc_law_conflict.nd rfl rfl (sw_true rfl rfl rfl (by decide +kernel)) (pi_list (pv 7)) (blkOk_by (N := ["kinds", "record", "level", "first", "i", "part", "others", "whole", "known", "gone", "kind", "action", "one", "j"]) (sc := defScope s_law_conflict) (by decide +kernel)) (fun _ _ _ _ _ => (pg_name (i := 12) sc_law_conflict.nd rfl (by first | exact Or.inl rfl | exact Or.inr rfl))) (fun _ _ _ _ _ => pts_one (PW.pt (pw_and (pt_cmpR op_eq (pe_ix (ix_tupK (K := K) rfl) (pv 12) pe_int (fun _ _ => rfl)) pe_str (nomark _)) (pw_and1 (pt_cmpR op_notN (pe_ix (ix_tupK (K := K) rfl) (pv 12) pe_int (fun _ _ => rfl)) pe_non (nomark _)))))) (fun _ _ _ _ _ => (pe_ix (ix_tupK (K := K) rfl) (pv 12) pe_int (fun _ _ => rfl))))
    (pss_cons (ps_if (PW.pt (pw_or (PW.pt (pw_and (pt_cmpR (op_eqD hr.units) (pv 8) (pe_lst pa_nil) (nomark _)) (pw_and1 (pt_cmpR op_eq (pe_callB (cr_lenSSw (w := w) rfl) (by rfl) T.n_len (by decide +kernel) (pa_cons (pe_callTy (cr_setSw (K := K) (w := w) rfl rfl rfl) (by rfl) T.n_set (by decide +kernel) (pa_cons (pv 9) pa_nil)) pa_nil)) (pe_callB call_len_seq (by rfl) T.n_len (by decide +kernel) (pa_cons (pv 0) pa_nil)) (nomark _))))) (pw_or1 (PW.pt (pw_and (pt_cmpR op_eq (pe_callB call_len_seq (by rfl) T.n_len (by decide +kernel) (pa_cons (pv 0) pa_nil)) pe_int (nomark _)) (pw_and1 (pt_cmpR op_eq (pv 11) pe_str (nomark _)))))))) (pss_one (ps_ret (pe_tup (pa_cons pe_str (pa_cons (pv 3) (pa_cons (pv 4) pa_nil)))))) pss_nil)
    (pss_one (ps_set (i := 2) sc_law_conflict.nd rfl (by first | exact Or.inl rfl | exact Or.inr rfl) (pe_ifExp (pt_cmpR op_eq (pv 11) pe_str (nomark _)) (pe_op op_add (pv 2) pe_int) (pe_op op_sub (pv 2) pe_int))))))))))))))))
    (pss_one (ps_ret pe_non)))), ?_⟩
    refine ⟨(by show 2 ≤ sizeLine; decide), fun t0 nt0 => ⟨t0, _, rfl, .of upd_same, rfl, _, _, rfl, _, _, rfl, rfl, ?_⟩⟩
    have st0 := same_upd (o := .tup [.int 0, .int 0]) nt0
    refine ⟨_, rfl, b, _, rfl, .of (st0 _ _ hx), for_gen (J := Ite K b) (n := es.length) (fun i σ H' => ∃ (f : Nat) (y4 y5 y6 y7 y8 y9 y10 y11 y12 y13 : Option V), σ = [some (.ref a), some (.ref b), some (.int ((lvlE 0 (es.take i) : Nat) : Int)), some (.int (f : Nat)), y4, y5, y6, y7, y8, y9, y10, y11, y12, y13] ∧ Same H H' ∧ (lvlE 0 (es.take i) ≠ 0 → f = fsA es i) ∧ ∀ j, j < i → cAt ks es j = none)
      ⟨0, none, none, none, none, none, none, none, none, none, none, rfl, st0, (fun h => absurd rfl h), (fun j h => absurd h (Nat.not_lt_zero _))⟩ (fun i σ H' hi hP => ?_) (fun σ H' hP => ?_) (fun i x σ H4 H5 hi hP hy => ?_) (fun σ H4 hP => ?_)⟩
    · obtain ⟨_, _, _, _, _, _, _, _, _, _, _, _, sm, _⟩ := hP
      exact ⟨_, _, .of (sm _ _ hx), List.getElem?_eq_getElem (by omega)⟩
    · obtain ⟨_, _, _, _, _, _, _, _, _, _, _, _, sm, _⟩ := hP
      exact ⟨_, .of (sm _ _ hx), by omega⟩
    · obtain ⟨f, y4, y5, y6, y7, y8, y9, y10, y11, y12, y13, rfl, sm, hf, hno⟩ := hP
      obtain ⟨T', x', rfl, nT, rfl, fx⟩ := hy
      have ex := fx _ (.of (sm _ _ hx))
      obtain ⟨e, ee, t, rfl, ht⟩ := Paired.at (Paired.imp (fun _ _ z => EnV.same sm z) hxp) ex
      have sT := same_upd (o := .tup [.int ((i : Nat) : Int), .ref t]) nT
      have hT : (upd H4 T' (.tup [.int ((i : Nat) : Int), .ref t])) T' = some (.tup [.int ((i : Nat) : Int), .ref t]) := upd_same
      have s5 := sm.trans sT
      have ht5 := sT _ _ ht
      generalize upd H4 T' (.tup [.int ((i : Nat) : Int), .ref t]) = H5 at *
      have ea : enA es i = e := enA_at ee
      obtain ⟨g, hg⟩ : ∃ g : Nat, g = fsA es i := ⟨_, rfl⟩
      have gi : g ≤ i := hg ▸ fsA_le es i
      have hg0 : g = if lvlE 0 (es.take i) = 0 then i else f := by
        split
        · next c => rw [hg, fsA_zero c]
        · next c => rw [hg, hf c]
      have lvl : lvlE 0 (es.take (i + 1)) = nxtE (lvlE 0 (es.take i)) e := by
        rw [take_snoc ee, lvlE_app]
        rfl
      generalize hl : lvlE 0 (es.take i) = l at *
      refine ⟨T', _, rfl, .of hT, rfl, _, _, rfl, _, _, rfl, t, _, rfl, .of ht5, rfl, _, _, rfl, _, _, rfl, rfl, rfl, ?_⟩
      dsimp only
      refine asg_val (fun v H' => v = .int (g : Nat) ∧ H5 = H') (fun Q k => ?_) (fun v H' hv => ?_)
      · refine ⟨_, rfl, rfl, _, rfl, ?_⟩
        rw [nv_dec0]
        by_cases c : l = 0
        · rw [if_pos c] at hg0
          exact iteP (decide_eq_true c) ⟨_, rfl, k _ _ ⟨by rw [hg0], rfl⟩⟩
        · rw [if_neg c] at hg0
          exact iteN (decide_eq_false c) ⟨_, rfl, k _ _ ⟨by rw [hg0], rfl⟩⟩
      obtain ⟨rfl, rfl⟩ := hv
      -- level
      try dsimp only
      refine if_gen (fun σ' H' => σ' = [some (.ref a), some (.ref b), some (.int (l : Nat)), some (.int (g : Nat)), some (.int (i : Nat)), y5, y6, y7, y8, y9, some (koV e.1), some (.str (actS e.2)), y12, y13] ∧ H5 = H' ∧ ¬ (l = 0 ∧ e.2 = false)) (fun R k => ?_) (fun σ' H' hO => ?_)
      · refine ⟨_, rfl, rfl, _, rfl, ?_⟩
        rcases Bool.eq_false_or_eq_true e.2 with c1 | c1
        · exact iteN (by rw [leaves_dec, c1]; rfl) (iteF (k _ _ ⟨rfl, rfl, fun z => by rw [c1] at z; cases z.2⟩))
        · refine iteP (by rw [leaves_dec, c1]; rfl) ⟨_, rfl, rfl, _, rfl, ?_⟩
          by_cases c : l = 0
          · refine iteP (by rw [nv_dec0]; exact decide_eq_true c) ⟨_, rfl, (by show 2 ≤ sizeLine; decide), fun u nu => ?_⟩
            exact fin (c := .lev i) (at_lev (hl.trans c) (by rw [ea]; exact c1)) hno hi s5 nu
          · exact iteN (by rw [nv_dec0]; exact decide_eq_false c) (k _ _ ⟨rfl, rfl, fun z => c z.1⟩)
      obtain ⟨rfl, rfl, nlev⟩ := hO
      have nlev' : ¬ (lvlE 0 (es.take i) = 0 ∧ (enA es i).2 = false) := by rw [hl, ea]; exact nlev
      -- part
      have hx5 := s5 _ _ hx
      have hxp5 := Paired.imp (fun _ _ z => EnV.same s5 z) hxp
      refine ⟨_, rfl, b, xs, rfl, hx5, fun H6 p ts s6 np nts hp hts => ⟨_, rfl, _, rfl, _, rfl, _, rfl, p, _, rfl, .of hp, fun PA nPA => ?_⟩⟩
      have lts : ts.length = es.length := by rw [Paired.len hts, numV_len, lx]
      rw [cut_fi gi (by rw [List.length_map]; omega)]
      have sP := same_upd (o := .lst (((ts.map V.ref).drop g).take (i - g))) nPA
      have hPA : (upd H6 PA (.lst (((ts.map V.ref).drop g).take (i - g)))) PA = some (.lst (((ts.map V.ref).drop g).take (i - g))) := upd_same
      have hprt : Paired (PrtV (upd H6 PA (.lst (((ts.map V.ref).drop g).take (i - g)))) es) (((ts.map V.ref).drop g).take (i - g)) (List.range' g (i - g)) := by
        rw [← rng_part gi (show i ≤ es.length by omega)]
        refine take_pair _ (drop_pair _ ?_)
        refine paired_ofix (by rw [List.length_map, List.length_range, lts]) fun j v m hv hm => ?_
        rw [List.getElem?_map] at hv
        obtain ⟨tj, etj, rfl⟩ := Option.map_eq_some_iff.mp hv
        have hj : j < es.length := by
          have := (List.getElem?_eq_some_iff.mp etj).1
          omega
        rw [List.getElem?_range hj] at hm
        cases hm
        obtain ⟨pr, epr, htj⟩ := Paired.at hts etj
        obtain ⟨g1, g2⟩ := numV_at epr
        obtain ⟨ej, eej, u, eu, hu⟩ := Paired.at hxp5 g2
        have htj : H6 tj = some (.tup [.int (pr.1 : Nat), pr.2]) := htj
        rw [g1, eu] at htj
        refine ⟨tj, u, rfl, sP _ _ htj, ?_⟩
        rw [enA_at eej]
        exact sP _ _ (s6 _ _ hu)
      have s7 := s5.trans (s6.trans sP)
      generalize upd H6 PA (.lst (((ts.map V.ref).drop g).take (i - g))) = H7 at *
      generalize ((ts.map V.ref).drop g).take (i - g) = ps at *
      have lps : ps.length = i - g := by rw [Paired.len hprt, List.length_range']
      clear hts hp nts np
      -- others, first
      refine ⟨_, rfl, PA, rfl, ⟨_, .of hPA⟩, fun L1 nL1 => lc_list (K := K) (a := PA) (xs := ps) (fun j H' => Same H7 H' ∧ H' L1 = some (.lst ((((List.range' g (i - g)).take j).filter fun a => (enA es a).2 && ((enA es a).1.isSome && !decide ((enA es a).1 = (enA es i).1))).map nvV))) ⟨same_upd nL1, upd_same⟩ (fun j H' _ p => .of (p.1 _ _ hPA)) (fun j x H8 ex p => ?_) (fun H8 p => ?_)⟩
      · obtain ⟨smc, hL⟩ := p
        obtain ⟨m, em, hm⟩ := Paired.at hprt ex
        obtain ⟨t1, u1, rfl, ht1, hu1⟩ := PrtV.same smc hm
        have hj : j < ps.length := (List.getElem?_eq_some_iff.mp ex).1
        rw [filt_snoc em]
        have llen : ((((List.range' g (i - g)).take j).filter fun a => (enA es a).2 && ((enA es a).1.isSome && !decide ((enA es a).1 = (enA es i).1))).map nvV).length < sizeLine := by
          have h1 := List.length_filter_le (fun a => (enA es a).2 && ((enA es a).1.isSome && !decide ((enA es a).1 = (enA es i).1))) ((List.range' g (i - g)).take j)
          rw [List.length_take] at h1
          rw [List.length_map]
          exact small (by omega)
        refine ⟨t1, _, rfl, .of ht1, rfl, _, _, rfl, _, _, rfl, rfl, rfl, _, rfl, u1, _, 1, _, rfl, rfl, .of hu1, at1, rfl, _, rfl, ?_⟩
        cases c1 : (enA es m).2 with
        | false =>
          refine iteN (by decide +kernel) (iteF ⟨smc, ?_⟩)
          rw [Bool.false_and, if_neg (by decide), List.append_nil]
          exact hL
        | true =>
          refine iteP (decide_eq_true rfl) ⟨_, rfl, u1, _, 0, _, rfl, rfl, .of hu1, at0, _, rfl, (by show 2 ≤ sizeLine; decide), fun v nv => ⟨v, _, rfl, .inr (.of upd_same), ko_flat _, (by show (flatV V.non && (flatV (koV e.1) && true)) = true; rw [ko_flat]; rfl), _, rfl, ?_⟩⟩
          rw [in_two, Bool.true_and, ea, if_pos (show (true = true) from rfl)]
          have sv := same_upd (o := .tup [V.non, koV e.1]) nv
          have e3 : (!((enA es m).1.isNone || decide ((enA es m).1 = e.1))) = ((enA es m).1.isSome && !decide ((enA es m).1 = e.1)) := by
            cases (enA es m).1 <;> simp
          rw [e3]
          rw [ea] at hL llen
          cases c2 : ((enA es m).1.isSome && !decide ((enA es m).1 = e.1)) with
          | false =>
            refine iteF ⟨smc.trans sv, ?_⟩
            rw [if_neg (by decide), List.append_nil]
            exact sv _ _ hL
          | true =>
            refine iteT ⟨_, rfl, _, sv _ _ hL, llen, same_grow nL1 (smc.trans sv), ?_⟩
            rw [upd_same, if_pos rfl, List.map_append]
            rfl
      obtain ⟨s8, hL1⟩ := p
      rw [lps, List.take_of_length_le (by rw [List.length_range']; omega)] at hL1
      have hL1 : H8 L1 = some (.lst ((wO es g i).map nvV)) := hL1
      have s08 := s7.trans s8
      have hPA8 := s8 _ _ hPA
      have hprt8 := Paired.imp (fun _ _ z => PrtV.same s8 z) hprt
      have lw : (wO es g i).length ≤ 400 := by
        unfold wO
        refine Nat.le_trans (List.length_filter_le _ _) ?_
        rw [List.length_range']
        omega
      try dsimp only
      refine if_gen (fun σ' H' => ∃ y6 y12 y13, σ' = [some (.ref a), some (.ref b), some (.int (l : Nat)), some (.int (g : Nat)), some (.int (i : Nat)), some (.ref PA), y6, y7, y8, y9, some (koV e.1), some (.str (actS e.2)), y12, y13] ∧ Same H8 H' ∧ (e.1.isSome = true → e.2 = true → wO es g i = [])) (fun R k => ?_) (fun σ' H9 hO => ?_)
      · refine ⟨_, rfl, rfl, _, rfl, ?_⟩
        rcases Bool.eq_false_or_eq_true e.1.isSome with c1 | c1
        · refine iteP (by rw [ko_non]; exact c1) ⟨_, rfl, rfl, _, rfl, ?_⟩
          rcases Bool.eq_false_or_eq_true e.2 with c2 | c2
          · refine iteP (by rw [c2]; rfl) ⟨_, rfl, Nat.zero_le _, fun z1 nz => ?_⟩
            have sz := same_upd (o := .lst []) nz
            refine ⟨.list ((wO es g i).map fun n : Nat => .int (n : Int)), .list [], .lst (.of (sz _ _ hL1)) (dp_nats _), .lst (.of upd_same) .nil, shaped_nats lw (wO_le es g i) (by omega), shaped_nil, _, rfl, ?_⟩
            rw [eqv_nilD]
            cases hw : wO es g i with
            | nil => exact iteN rfl (k _ _ ⟨_, _, _, rfl, sz, fun _ _ => hw⟩)
            | cons m r =>
              rw [hw] at hL1
              refine iteP rfl ⟨_, rfl, L1, _, 0, _, rfl, rfl, .of (sz _ _ hL1), atI_ofB (by decide) rfl, _, rfl, (by show 3 ≤ sizeLine; decide), fun u nu => ?_⟩
              exact fin (c := .thr "waits" m i) (at_waits nlev' (by rw [ea]; exact c1) (by rw [ea]; exact c2) (by rw [← hg]; exact hw)) hno hi (s08.trans sz) nu
          · exact iteN ((act_eq _ true).trans (by rw [c2]; rfl)) (iteF (k _ _ ⟨_, _, _, rfl, Same.refl _, fun _ z => by rw [c2] at z; cases z⟩))
        · exact iteN (by rw [ko_non]; exact c1) (iteF (k _ _ ⟨_, _, _, rfl, Same.refl _, fun z => by rw [c1] at z; cases z⟩))
      obtain ⟨y6', y12', y13', rfl, s9, hw⟩ := hO
      have s09 := s08.trans s9
      have hPA9 := s9 _ _ hPA8
      have hprt9 := Paired.imp (fun _ _ z => PrtV.same s9 z) hprt8
      clear hL1
      -- others, second
      refine ⟨_, rfl, PA, rfl, ⟨_, .of hPA9⟩, fun L2 nL2 => lc_list (K := K) (a := PA) (xs := ps) (fun j H' => Same H9 H' ∧ H' L2 = some (.lst ((((List.range' g (i - g)).take j).filter fun a => decide ((enA es a).1 = (enA es i).1) && !decide ((enA es a).2 = (enA es i).2)).map nvV))) ⟨same_upd nL2, upd_same⟩ (fun j H' _ p => .of (p.1 _ _ hPA9)) (fun j x HA ex p => ?_) (fun HA p => ?_)⟩
      · obtain ⟨smc, hL⟩ := p
        obtain ⟨m, em, hm⟩ := Paired.at hprt9 ex
        obtain ⟨t1, u1, rfl, ht1, hu1⟩ := PrtV.same smc hm
        have hj : j < ps.length := (List.getElem?_eq_some_iff.mp ex).1
        rw [filt_snoc em]
        have llen : ((((List.range' g (i - g)).take j).filter fun a => decide ((enA es a).1 = (enA es i).1) && !decide ((enA es a).2 = (enA es i).2)).map nvV).length < sizeLine := by
          have h1 := List.length_filter_le (fun a => decide ((enA es a).1 = (enA es i).1) && !decide ((enA es a).2 = (enA es i).2)) ((List.range' g (i - g)).take j)
          rw [List.length_take] at h1
          rw [List.length_map]
          exact small (by omega)
        rw [ea] at hL llen ⊢
        refine ⟨t1, _, rfl, .of ht1, rfl, _, _, rfl, _, _, rfl, rfl, rfl, _, rfl, u1, _, 0, _, rfl, rfl, .of hu1, at0, _, rfl, ko_scal _ _, _, rfl, ?_⟩
        rw [ko_dec]
        cases c1 : decide ((enA es m).1 = e.1) with
        | false =>
          refine iteF (iteF ⟨smc, ?_⟩)
          rw [Bool.false_and, if_neg (by decide), List.append_nil]
          exact hL
        | true =>
          refine iteT ⟨_, rfl, u1, _, 1, _, rfl, rfl, .of hu1, at1, _, rfl, rfl, _, rfl, ?_⟩
          rw [act_eq, Bool.true_and]
          cases c2 : !decide ((enA es m).2 = e.2) with
          | false =>
            refine iteF ⟨smc, ?_⟩
            rw [if_neg (by decide), List.append_nil]
            exact hL
          | true =>
            refine iteT ⟨_, rfl, _, hL, llen, same_grow nL2 smc, ?_⟩
            rw [upd_same, if_pos rfl, List.map_append]
            rfl
      obtain ⟨sA, hL2⟩ := p
      rw [lps, List.take_of_length_le (by rw [List.length_range']; omega)] at hL2
      have hL2 : HA L2 = some (.lst ((lO es g i).map nvV)) := hL2
      have s0A := s09.trans sA
      have llo : (lO es g i).length ≤ 400 := by
        unfold lO
        refine Nat.le_trans (List.length_filter_le _ _) ?_
        rw [List.length_range']
        omega
      try dsimp only
      refine if_gen (fun σ' H' => ∃ y6 y12 y13, σ' = [some (.ref a), some (.ref b), some (.int (l : Nat)), some (.int (g : Nat)), some (.int (i : Nat)), some (.ref PA), y6, y7, y8, y9, some (koV e.1), some (.str (actS e.2)), y12, y13] ∧ Same HA H' ∧ (e.1.isSome = true → lO es g i = [])) (fun R k => ?_) (fun σ' HB hO => ?_)
      · refine ⟨_, rfl, rfl, _, rfl, ?_⟩
        rcases Bool.eq_false_or_eq_true e.1.isSome with c1 | c1
        · refine iteP (by rw [ko_non]; exact c1) ⟨_, rfl, Nat.zero_le _, fun z1 nz => ?_⟩
          have sz := same_upd (o := .lst []) nz
          refine ⟨.list ((lO es g i).map fun n : Nat => .int (n : Int)), .list [], .lst (.of (sz _ _ hL2)) (dp_nats _), .lst (.of upd_same) .nil, shaped_nats llo (lO_le es g i) (by omega), shaped_nil, _, rfl, ?_⟩
          rw [eqv_nilD]
          cases hlo : lO es g i with
          | nil => exact iteN rfl (k _ _ ⟨_, _, _, rfl, sz, fun _ => hlo⟩)
          | cons m r =>
            rw [hlo] at hL2
            refine iteP rfl ⟨_, rfl, L2, _, 0, _, rfl, rfl, .of (sz _ _ hL2), atI_ofB (by decide) rfl, _, rfl, (by show 3 ≤ sizeLine; decide), fun u nu => ?_⟩
            exact fin (c := .thr "leaves" m i) (at_leaves nlev' (by rw [ea]; exact c1) (fun h => by rw [ea] at h; rw [← hg]; exact hw c1 h) (by rw [← hg]; exact hlo)) hno hi (s0A.trans sz) nu
        · exact iteN (by rw [ko_non]; exact c1) (iteF (k _ _ ⟨_, _, _, rfl, Same.refl _, fun z => by rw [c1] at z; cases z⟩))
      obtain ⟨y6'', y12'', y13'', rfl, sB, hlo⟩ := hO
      have s0B := s0A.trans sB
      have hxB := s0B _ _ hx
      have hxpB := Paired.imp (fun _ _ z => EnV.same s0B z) hxp
      have haB := s0B _ _ ha
      clear hL2
      -- whole
      refine ⟨_, rfl, _, rfl, _, rfl, _, rfl, _, _, rfl, rfl, _, rfl, b, xs, rfl, .of hxB, fun WA nWA => ?_⟩
      rw [cut_to gi (by omega)]
      have sW := same_upd (o := .lst ((xs.drop g).take (i + 1 - g))) nWA
      have hWA : (upd HB WA (.lst ((xs.drop g).take (i + 1 - g)))) WA = some (.lst ((xs.drop g).take (i + 1 - g))) := upd_same
      have hys : Paired (EnV (upd HB WA (.lst ((xs.drop g).take (i + 1 - g))))) ((xs.drop g).take (i + 1 - g)) (cutE es g i) := take_pair _ (drop_pair _ (Paired.imp (fun _ _ z => EnV.same sW z) hxpB))
      have s0C := s0B.trans sW
      have haC := sW _ _ haB
      generalize upd HB WA (.lst ((xs.drop g).take (i + 1 - g))) = HC at *
      generalize (xs.drop g).take (i + 1 - g) = ys at *
      have hex := exh_eq nd ik gi hi
      have oks : ∀ e' ∈ cutE es g i, EnOk e' := fun e' he => oke e' (List.mem_of_mem_drop (List.mem_of_mem_take he))
      have lcu : (cutE es g i).length ≤ 400 := by
        unfold cutE
        rw [List.length_take, List.length_drop]
        omega
      have hlast := at_last (ks := ks) nlev' fun h => ⟨fun h2 => by rw [ea] at h h2; rw [← hg]; exact hw h h2, by rw [ea] at h; rw [← hg]; exact hlo h⟩
      rw [← hg] at hlast
      generalize cutE es g i = ep at *
      have lys := Paired.len hys
      -- known
      refine ⟨_, rfl, WA, rfl, ⟨_, .of hWA⟩, fun L3 nL3 => lc_list (K := K) (a := WA) (xs := ys) (fun j H' => Same HC H' ∧ ∃ rs, H' L3 = some (.lst rs) ∧ Paired (EnV H') rs (entE (ep.take j) true)) ⟨same_upd nL3, [], upd_same, .nil⟩ (fun j H' _ p => .of (p.1 _ _ hWA)) (fun j x HD ex p => ?_) (fun HD p => ?_)⟩
      · obtain ⟨smc, rs, hL, hrs⟩ := p
        obtain ⟨e1, ee1, hr1⟩ := Paired.at hys ex
        obtain ⟨t1, rfl, ht1⟩ := EnV.same smc hr1
        have hj : j < ys.length := (List.getElem?_eq_some_iff.mp ex).1
        have lrs := Paired.len hrs
        have hstep : entE (ep.take (j + 1)) true = entE (ep.take j) true ++ if (decide (e1.2 = true) && e1.1.isSome) = true then [e1] else [] := filt_snoc ee1
        have lrs4 : rs.length ≤ 400 := by
          rw [lrs]
          refine Nat.le_trans (List.length_filter_le _ _) ?_
          rw [List.length_take]
          omega
        rw [hstep]
        refine ⟨rfl, _, rfl, t1, _, 1, _, rfl, rfl, .of ht1, at1, rfl, _, rfl, ?_⟩
        rcases Bool.eq_false_or_eq_true e1.2 with c1 | c1
        · refine iteP (by rw [c1]; rfl) ⟨_, rfl, t1, _, 0, _, rfl, rfl, .of ht1, at0, rfl, _, rfl, ?_⟩
          rcases Bool.eq_false_or_eq_true e1.1.isSome with c2 | c2
          · refine iteP (by rw [ko_non]; exact c2) ⟨_, rfl, _, hL, small (by omega), same_grow nL3 smc, _, upd_same, ?_⟩
            rw [if_pos (by rw [c1, c2]; rfl)]
            exact Paired.app (Paired.imp (fun _ _ z => EnV.grow hL z) hrs) (.cons (EnV.grow hL ⟨t1, rfl, ht1⟩) .nil)
          · refine iteN (by rw [ko_non]; exact c2) ⟨smc, rs, hL, ?_⟩
            rw [if_neg (by rw [c2]; simp), List.append_nil]
            exact hrs
        · refine iteN ((act_eq _ true).trans (by rw [c1]; rfl)) (iteF ⟨smc, rs, hL, ?_⟩)
          rw [if_neg (by rw [c1]; simp), List.append_nil]
          exact hrs
      obtain ⟨sD, rs, hL3, hrs⟩ := p
      rw [lys, List.take_length] at hrs
      have hWD := sD _ _ hWA
      have hysD := Paired.imp (fun _ _ z => EnV.same sD z) hys
      -- gone
      refine ⟨_, rfl, WA, rfl, ⟨_, .of hWD⟩, fun L4 nL4 => lc_list (K := K) (a := WA) (xs := ys) (fun j H' => Same HD H' ∧ H' L4 = some (.lst ((knE (ep.take j) false).map V.str))) ⟨same_upd nL4, upd_same⟩ (fun j H' _ p => .of (p.1 _ _ hWD)) (fun j x HE ex p => ?_) (fun HE p => ?_)⟩
      · obtain ⟨smc, hL⟩ := p
        obtain ⟨e1, ee1, hr1⟩ := Paired.at hysD ex
        obtain ⟨t1, rfl, ht1⟩ := EnV.same smc hr1
        have hj : j < ys.length := (List.getElem?_eq_some_iff.mp ex).1
        refine ⟨rfl, _, rfl, t1, _, 1, _, rfl, rfl, .of ht1, at1, rfl, _, rfl, ?_⟩
        rw [kn_snoc ee1]
        obtain ⟨k1, c1⟩ := e1
        by_cases hc : c1 = false
        · subst hc
          refine iteP (decide_eq_true rfl) ⟨_, rfl, t1, _, 0, _, rfl, rfl, .of ht1, at0, rfl, _, rfl, ?_⟩
          rw [if_pos rfl]
          cases k1 with
          | none =>
            refine iteN yes_non ⟨smc, ?_⟩
            show _ = some (HO.lst ((_ ++ []).map V.str))
            rw [List.append_nil]
            exact hL
          | some k1 =>
            refine iteP (no_non k1) ⟨_, rfl, t1, _, 0, _, rfl, rfl, .of ht1, at0, _, hL, ?_, same_grow nL4 smc, ?_⟩
            · have h1 := kn_len (ep.take j) false
              rw [List.length_take] at h1
              rw [List.length_map]
              exact small (by omega)
            · rw [upd_same, List.map_append]
              rfl
        · refine iteN ((act_eq c1 false).trans (decide_eq_false hc)) (iteF ⟨smc, ?_⟩)
          rw [if_neg hc]
          show _ = some (HO.lst ((_ ++ []).map V.str))
          rw [List.append_nil]
          exact hL
      obtain ⟨sE, hL4⟩ := p
      rw [lys, List.take_length] at hL4
      have s0E := (s0C.trans sD).trans sE
      have hL3 := sE _ _ hL3
      have hrs := Paired.imp (fun _ _ z => EnV.same sE z) hrs
      have haE := sE _ _ (sD _ _ haC)
      have lkn := kn_len ep false
      -- exhausted
      try dsimp only
      refine if_gen (fun σ' H' => ∃ y6 y7 y8 y9 y12 y13, σ' = [some (.ref a), some (.ref b), some (.int (l : Nat)), some (.int (g : Nat)), some (.int (i : Nat)), some (.ref PA), y6, y7, y8, y9, some (koV e.1), some (.str (actS e.2)), y12, y13] ∧ Same HE H' ∧ cAt ks es i = none) (fun R k => ?_) (fun σ' HF hO => ?_)
      · refine ifS_orH (b1 := decide (knE ep true = []) && decide ((setS (knE ep false)).length = ks.length)) (b2 := decide (ks.length = 1) && decide ((enA es i).2 = false)) (Same HE) (fun R hR => ?_) (fun R H' sH hR => ?_) (fun hc H' sH => ?_) (fun hc H' sH => ?_)
        · refine ⟨_, rfl, Nat.zero_le _, fun z1 nz => ?_⟩
          have sz := same_upd (o := .lst []) nz
          obtain ⟨ds, g1, g2, g3⟩ := dp_engs (K := K) (Paired.imp (fun _ _ z => env_g z) hrs) fun e' he => oks e' ((List.mem_filter.mp he).1)
          have lent : (entE ep true).length ≤ 400 := Nat.le_trans (List.length_filter_le _ _) (by omega)
          have fit := Nice.fits (nice_list (w := 18) (n := 1) g3) (by rw [g2]; omega) (by decide)
          refine ⟨.list ds, .list [], .lst (.of (sz _ _ hL3)) (g1 _ sz), .lst (.of upd_same) .nil, fit.2.1, shaped_nil, _, rfl, ?_⟩
          have hemp : ds.isEmpty = decide (knE ep true = []) := by
            rw [← ent_emp]
            cases hds : ds <;> cases hen : entE ep true <;> rw [hds, hen] at g2 <;> first | rfl | cases g2
          rw [eqv_nilD, hemp]
          cases c1 : decide (knE ep true = []) with
          | false =>
            refine iteF ?_
            rw [c1, Bool.false_and] at hR
            exact hR _ sz
          | true =>
            rw [c1, Bool.true_and] at hR
            refine iteT ⟨_, rfl, L4, _, rfl, .of (sz _ _ hL4), Nat.lt_of_le_of_lt (Nat.succ_le_succ (show (knE ep false).length ≤ 400 by omega)) (by decide), fun S nS => ⟨S, _, rfl, upd_same, _, rfl, a, _, rfl, .inl (.of (same_upd nS _ _ (sz _ _ haE))), rfl, _, rfl, ?_⟩⟩
            have e1 : decide (V.int ((setS (knE ep false)).length : Nat) = V.int ((ks.map V.str).length : Nat)) = decide ((setS (knE ep false)).length = ks.length) := by
              rw [List.length_map]
              exact nv_dec _ _
            rw [e1]
            exact hR _ (sz.trans (same_upd nS))
        · refine ⟨_, rfl, a, _, rfl, .inl (.of (sH _ _ haE)), rfl, _, rfl, ?_⟩
          have e1 : decide (V.int ((ks.map V.str).length : Nat) = V.int 1) = decide (ks.length = 1) := by
            rw [List.length_map]
            exact nv_dec ks.length 1
          rw [e1]
          cases c1 : decide (ks.length = 1) with
          | false =>
            refine iteF ?_
            rw [c1, Bool.false_and] at hR
            exact hR _ sH
          | true =>
            rw [c1, Bool.true_and, ea] at hR
            refine iteT ⟨_, rfl, rfl, _, rfl, ?_⟩
            rw [show decide (V.str (actS e.2) = V.str "leaves") = decide (e.2 = false) from act_eq e.2 false]
            exact hR _ sH
        · rw [← hex] at hc
          refine ⟨_, rfl, _, rfl, (by show 3 ≤ sizeLine; decide), fun u nu => ?_⟩
          exact fin (c := .thr "all" g i) (by rw [hlast, if_pos hc]) hno hi (s0E.trans sH) nu
        · rw [← hex] at hc
          exact k _ _ ⟨_, _, _, _, _, _, rfl, sH, by rw [hlast, if_neg (by rw [hc]; decide)]⟩
      obtain ⟨z6, z7, z8, z9, z12, z13, rfl, sF, hcn⟩ := hO
      try dsimp only
      refine asg_valL (fun v H' => v = .int ((nxtE l e : Nat) : Int) ∧ HF = H') (fun Q k => ?_) (fun v H' hv => ?_)
      · refine ⟨_, rfl, rfl, _, rfl, ?_⟩
        rcases Bool.eq_false_or_eq_true e.2 with e2 | e2
        · refine iteP (by rw [e2]; rfl) ⟨_, rfl, _, _, rfl, rfl, k _ _ ⟨?_, rfl⟩⟩
          unfold nxtE
          rw [if_pos e2]
          rfl
        · refine iteN ((act_eq _ true).trans (by rw [e2]; rfl)) ⟨_, rfl, _, _, rfl, rfl, k _ _ ⟨?_, rfl⟩⟩
          have : l ≠ 0 := fun z => nlev ⟨z, e2⟩
          unfold nxtE
          rw [if_neg (by rw [e2]; decide)]
          show V.int ((l : Int) - 1) = V.int ((l - 1 : Nat) : Int)
          congr 1
          omega
      obtain ⟨rfl, rfl⟩ := hv
      refine ⟨g, _, _, _, _, _, _, _, _, _, _, by rw [lvl]; rfl, s0E.trans sF, fun h => ?_, fun j hj => ?_⟩
      · rw [hg, fsA_next h]
      · rcases Nat.lt_succ_iff_lt_or_eq.mp hj with h | h
        · exact hno j h
        · rw [h]; exact hcn
    · obtain ⟨_, _, _, _, _, _, _, _, _, _, _, rfl, sm, _, hno⟩ := hP
      refine q _ _ sm ?_
      rw [cfE_scan, find_none hno]
      rfl
end
end UP

set_option Elab.async false
set_option linter.all false
set_option maxRecDepth 100000
set_option maxHeartbeats 8000000
set_option pp.maxSteps 500
namespace UP
open PySem PySem.Spec PyProof.Rows L2
def wdC : Cf → Str
  | .lev _ => "level"
  | .thr w _ _ => w
def idC : Cf → List Nat
  | .lev l => [l]
  | .thr _ a l => [a, l]
theorem cfL_eq (c : Cf) : cfL c = .str (wdC c) :: (idC c).map nvV := by cases c <;> rfl
theorem kind_level : KindOk "level" := by decide +kernel
theorem kind_waits : KindOk "waits" := by decide +kernel
theorem kind_leaves : KindOk "leaves" := by decide +kernel
theorem kind_all : KindOk "all" := by decide +kernel
theorem cfs_word {ks : List Str} {es : List En} {f l : Nat} {c : Cf} (h : c ∈ cfsE ks es f l) : KindOk (wdC c) := by
  unfold cfsE at h
  split at h
  · rw [List.mem_singleton.mp h]
    exact kind_level
  · rcases List.mem_append.mp h with h | h
    · unfold btwE at h
      rcases List.mem_append.mp h with h | h
      · obtain ⟨a, _, rfl⟩ := List.mem_map.mp h
        exact kind_waits
      · obtain ⟨a, _, rfl⟩ := List.mem_map.mp h
        exact kind_leaves
    · split at h
      · rw [List.mem_singleton.mp h]
        exact kind_all
      · cases h
theorem cfGo_word {ks : List Str} {es : List En} : ∀ {L : List (List En)} {f : Nat} {c : Cf}, cfGo ks es f L = some c → KindOk (wdC c)
  | [], _, _, h => by cases h
  | ep :: r, f, c, h => by
    rw [cfGo] at h
    rcases Option.or_eq_some_iff.mp h with h | ⟨_, h⟩
    · unfold cfEp at h
      obtain ⟨j, _, hj⟩ := List.exists_of_findSome?_eq_some h
      exact cfs_word (List.mem_of_mem_head? hj)
    · exact cfGo_word h
theorem cfE_word {ks : List Str} {es : List En} {c : Cf} (h : cfE ks es = some c) : KindOk (wdC c) := cfGo_word h
theorem dp_rows {K : PySem.W.Frag} {H : Hp} : ∀ {refs : List V} {rows : List (List Str)}, Paired (StrsV H) refs rows → DpAll K H refs (rows.map fun r => .list (r.map .str))
  | _, _, .nil => .nil
  | _, _, .cons h t => by
    obtain ⟨u, rfl, hu⟩ := h
    exact .cons (.lst (.of hu) (dp_strl _)) (dp_rows t)
theorem shaped_rows {rows : List (List Str)} (h : ∀ r ∈ rows, (∀ k ∈ r, KindOk k) ∧ r.length ≤ 6) (l : rows.length ≤ 729) : SeqAt.shaped (.list (rows.map fun r => .list (r.map .str))) = true := by
  refine (Nice.fits (nice_list (w := 54) (n := 1) (ds := rows.map fun r => PyData.list (r.map .str)) fun d hd => ?_) (by rw [List.length_map]; omega) (by decide)).2.1
  obtain ⟨r, hr, rfl⟩ := List.mem_map.mp hd
  obtain ⟨h1, h2⟩ := h r hr
  refine (nice_list (w := 8) (n := 0) (ds := r.map PyData.str) fun d hd => ?_).mono (by rw [List.length_map]; omega) (Nat.le_refl _)
  obtain ⟨k, hk, rfl⟩ := List.mem_map.mp hd
  exact nice_str (h1 k hk)

def dCfN (c : Cf) : PyData := .tuple (.str (wdC c) :: (idC c).map fun n : Nat => .int (n : Int))
theorem dp_intsN {K : PySem.W.Frag} {H : Hp} : ∀ l : List Nat, DpAll K H (l.map nvV) (l.map fun n : Nat => .int (n : Int))
  | [] => .nil
  | n :: t => .cons (.int _) (dp_intsN t)
/-- what the law expects: the conflict, or what is certain -/
def dDue (ks : List Str) (es : List En) : PyData := match cfE ks es with
  | some c => .tuple [.str "conflict", dCfN c]
  | none => .list ((cerE ks es).map koDD)
theorem cfs_ids {ks : List Str} {es : List En} {f l : Nat} {c : Cf} (h : c ∈ cfsE ks es f l) (fl : f ≤ l) : ∀ n ∈ idC c, n ≤ l := by
  unfold cfsE at h
  split at h
  · rw [List.mem_singleton.mp h]
    intro n hn
    rw [List.mem_singleton.mp hn]
    exact Nat.le_refl _
  · have two : ∀ (s : Str) (a : Nat), a ≤ l → ∀ n ∈ idC (Cf.thr s a l), n ≤ l := fun s a ha n hn => by
      rcases List.mem_cons.mp hn with e | e
      · rw [e]; exact ha
      · rw [List.mem_singleton.mp e]; exact Nat.le_refl _
    have oth : ∀ a ∈ othE es f l, a ≤ l := fun a ha => by
      have := List.mem_range'_1.mp (List.mem_filter.mp ha).1
      omega
    rcases List.mem_append.mp h with h | h
    · unfold btwE at h
      rcases List.mem_append.mp h with h | h
      · obtain ⟨a, ha, rfl⟩ := List.mem_map.mp h
        exact two _ a (oth a (List.mem_filter.mp ha).1)
      · obtain ⟨a, ha, rfl⟩ := List.mem_map.mp h
        exact two _ a (oth a (List.mem_filter.mp ha).1)
    · split at h
      · rw [List.mem_singleton.mp h]
        exact two _ f fl
      · cases h
theorem cfGo_ids {ks : List Str} {es : List En} : ∀ {L : List (List En)} {f : Nat} {c : Cf}, cfGo ks es f L = some c → f + L.flatten.length ≤ es.length → ∀ n ∈ idC c, n < es.length
  | [], _, _, h, _ => by cases h
  | ep :: r, f, c, h, l => by
    rw [cfGo] at h
    rw [List.flatten_cons, List.length_append] at l
    rcases Option.or_eq_some_iff.mp h with h | ⟨_, h⟩
    · unfold cfEp at h
      obtain ⟨j, hj, hc⟩ := List.exists_of_findSome?_eq_some h
      have hj := List.mem_range.mp hj
      intro n hn
      have := cfs_ids (List.mem_of_mem_head? hc) (by omega) n hn
      omega
    · exact cfGo_ids h (by omega)
theorem cf_ids {ks : List Str} {es : List En} {c : Cf} (h : cfE ks es = some c) : ∀ n ∈ idC c, n < es.length := cfGo_ids h (by rw [eps_join]; omega)
theorem kind_conflict : KindOk "conflict" := by decide +kernel
theorem cer_kind {ks : List Str} {es : List En} {its : List Str} (kso : KsOk ks) (h : FitE "" 0 es its) (hin : ∀ x ∈ its, x ∈ ks) : ∀ c ∈ cerE ks es, ∀ k, c = some k → KindOk k := fun c hc k e => by
  obtain ⟨i, hi⟩ := List.getElem?_of_mem hc
  obtain ⟨x, hx, hr⟩ := Paired.at (cer_fit h hin) hi
  subst e
  rcases hr with z | z
  · cases z
  · cases z
    exact kso.2.2.1 k (hin k (List.mem_of_getElem? hx))
theorem due_fits {ks : List Str} {es : List En} (kso : KsOk ks) (ik : InK ks es) (l4 : es.length ≤ 400) : (dDue ks es).showable = true ∧ SeqAt.shaped (dDue ks es) = true ∧ (dDue ks es).shown.length ≤ sizeLine := by
  unfold dDue
  cases hc : cfE ks es with
  | some c =>
    have hn : Nice 606 1 (dCfN c) := by
      unfold dCfN
      refine (nice_tup (w := 201) (n := 0) (ds := .str (wdC c) :: (idC c).map fun n : Nat => PyData.int (n : Int)) fun d hd => ?_).mono (by rw [List.length_cons, List.length_map]; cases c with | lev l => exact (show 202 * 2 ≤ 606 by decide) | thr w a l => exact (show 202 * 3 ≤ 606 by decide)) (Nat.le_refl _)
      rcases List.mem_cons.mp hd with e | e
      · rw [e]; exact (nice_str (cfE_word hc)).mono (by decide) (Nat.le_refl _)
      · obtain ⟨n, hn, rfl⟩ := List.mem_map.mp e
        have := cf_ids hc n hn
        exact nice_int (by rw [Int.natAbs_natCast]; exact Nat.lt_of_le_of_lt (show n ≤ 400 by omega) (by decide +kernel))
    refine Nice.fits (nice_tup (w := 606) (n := 1) (ds := [.str "conflict", dCfN c]) fun d hd => ?_) (by show 607 * 2 ≤ 150000; decide) (by decide)
    simp only [List.mem_cons, List.not_mem_nil, or_false] at hd
    rcases hd with e | e
    · rw [e]; exact (nice_str kind_conflict).mono (by decide) (by decide)
    · rw [e]; exact hn
  | none =>
    obtain ⟨r, hr⟩ := List.exists_mem_of_ne_nil _ (cf_gen (ks_nodup kso) ik hc).2
    obtain ⟨_, kr, fr⟩ := (gen_fit (ks_nodup kso) ik).mp hr
    refine Nice.fits (nice_list (w := 8) (n := 0) (ds := (cerE ks es).map koDD) fun d hd => ?_) (by rw [List.length_map, cer_lenE]; omega) (by decide)
    obtain ⟨c, hm, rfl⟩ := List.mem_map.mp hd
    exact nice_koD fun k e => cer_kind kso fr kr c hm k e
end UP

set_option Elab.async false
set_option linter.all false
set_option maxRecDepth 100000
set_option maxHeartbeats 4000000
set_option pp.maxSteps 500
namespace UP
open PySem PySem.Spec PyProof.Rows L2 HotX L2H UPH UPD
theorem takes0N {X : Cx} : L2N.Takes X (fun _ _ _ _ => False) := fun _ _ x => by
  obtain ⟨_, _, _, _, _, _, _, _, _, _, _, _, _, _, _, _, z⟩ := x
  exact z.elim
/-- in the suite the caught exception is the handled one -/
theorem hotC_suite {X : Cx} {a : Addr} {oe : Obj} {cls : Value} {d : Option Addr} {pn : List (Addr × Obj)} (hz : L2N.Zn cls d oe) (hv : ∃ vs, oe.data = .fields vs) : HotC (X.suite a ((a, oe) :: pn)) := by
  obtain ⟨vs, hv⟩ := hv
  exact ⟨(a, oe), ⟨rfl, vs, hv, hz.2.2 vs hv⟩, List.mem_cons_self⟩
theorem call_reprS {X : Cx} {a : Addr} {pn : List (Addr × Obj)} (hg : X.A.guards = some []) (hu : X.A.units + 70 < cLine) : CallR (X.suite a pn) (.builtin "repr") (rReprN X.K) := call_reprN (X := X.suite a pn) hg hu
theorem cnt_zero {ks : List Str} {es : List En} (nd : ks.Nodup) (ik : InK ks es) (h : cfE ks es ≠ none) : cntE ks es = 0 := by
  rw [← cnt_gen nd es, (gen_cf nd ik).mpr h]
  rfl
theorem dp_cf {K : PySem.W.Frag} {H : Hp} {t : Addr} {c : Cf} (h : H t = some (.tup (cfL c))) : DpLt K H (.ref t) (dCfN c) := fun H' s => by
  have h := s _ _ h
  cases c with
  | lev l => exact .tup (.of h) (.cons (.str _) (.cons (.int _) .nil))
  | thr w a l => exact .tup (.of h) (.cons (.str _) (.cons (.int _) (.cons (.int _) .nil)))
theorem nice_cf {ks : List Str} {es : List En} {c : Cf} (hc : cfE ks es = some c) (l4 : es.length ≤ 400) : Nice 606 1 (dCfN c) := by
  unfold dCfN
  refine (nice_tup (w := 201) (n := 0) (ds := .str (wdC c) :: (idC c).map fun n : Nat => PyData.int (n : Int)) fun d hd => ?_).mono (by rw [List.length_cons, List.length_map]; cases c with | lev l => exact (show 202 * 2 ≤ 606 by decide) | thr w a l => exact (show 202 * 3 ≤ 606 by decide)) (Nat.le_refl _)
  rcases List.mem_cons.mp hd with e | e
  · rw [e]; exact (nice_str (cfE_word hc)).mono (by decide) (Nat.le_refl _)
  · obtain ⟨n, hn, rfl⟩ := List.mem_map.mp e
    have := cf_ids hc n hn
    exact nice_int (by rw [Int.natAbs_natCast]; exact Nat.lt_of_le_of_lt (show n ≤ 400 by omega) (by decide +kernel))
theorem cf_fits {ks : List Str} {es : List En} {c : Cf} (hc : cfE ks es = some c) (l4 : es.length ≤ 400) : (dCfN c).showable = true ∧ SeqAt.shaped (dCfN c) = true ∧ (dCfN c).shown.length ≤ sizeLine := Nice.fits (nice_cf hc l4) (by decide) (by decide)
section
variable {P : Program} {w : World} {K : PySem.W.Frag} {mg : Str → Option Value} {base : Heap}
/-! _law_contradicts: slots 0:kinds 1:record 2:due 3:caught -/
abbrev s_law_contradicts : Stmt := topS 49
theorem sc_law_contradicts : FnScope ["kinds", "record", "due", "caught"] ["kinds", "record", "due"] (defScope s_law_contradicts) := ⟨rfl, rfl, rfl, by decide +kernel, rfl, by decide +kernel, by decide +kernel⟩
def sp_law_contradicts : Sp := fun vs H Q _ => ∃ (a b : Addr) (dv : V) (ks : List Str) (es : List En), vs = [.ref a, .ref b, dv] ∧ Sq2 H a (ks.map V.str) ∧ KsOk ks ∧ RecG H (.ref b) es ∧ InK ks es ∧ es.length ≤ 400 ∧ CfO H dv (cfE ks es) ∧ ∀ H', Same H H' → Q (.bl (cfE ks es).isSome) H'
theorem ok_law_contradicts {CI : Addr} (D : Df K mg "_law_contradicts" s_law_contradicts) (T : Tx mg) (I1 : ConF K mg CI) (GX_certain_kinds : HasX P w K mg base 6 "certain_kinds" ["kinds", "record"] (sp_certain_kindsX CI)) (GH_fitting_count : HasH P w K mg base 5 "fitting_count" ["kinds", "record"] sp_fitting_count) : HasG P w K mg base 7 "_law_contradicts" ["kinds", "record", "due"] sp_law_contradicts := by
  refine hasG_of D sc_law_contradicts (fun _ _ _ _ _ _ us hl => match us, hl with | [_, _, _], _ => rfl) (fun vs H Q E h => ?_) (fun f cdv A outer s₀ H vs Q E hr gd h => ?_)
  · obtain ⟨_, _, _, _, _, rfl, _⟩ := h
    rfl
  · obtain ⟨a, b, dv, ks, es, rfl, ha, kso, hv, ik, l4, hd, q⟩ := h
    refine ⟨_, (pss_cons (L2N.ps_try_as (i := 3) rfl rfl sc_law_contradicts.nd rfl rfl ⟨rfl, by decide, .inl I1.g⟩ takes0N (fun W pn xe tk _ => pss_one (ps_expr (pe_callXH GX_certain_kinds tk (hr.mono (by omega)) (by rfl) (pa_cons (pv 0) (pa_cons (pv 1) pa_nil))))) (fun a oe cls d pn hz hf => pss_one (ps_ret (pe_and (pe_cmpR op_eq (pe_callB (call_reprS gd (room70 hr)) (by rfl) T.n_repr (by decide +kernel) (pa_cons (pe_xf I1.x I1.n hz.zc hf (pv 3)) pa_nil)) (pe_callB (call_reprS gd (room70 hr)) (by rfl) T.n_repr (by decide +kernel) (pa_cons (pv 2) pa_nil)) (nomark _)) (pe_one (pe_cmpR op_eq (pe_callHot GH_fitting_count ⟨(roomH_of (k := 5) (hr.mono (by omega))).dp, (roomH_of (k := 5) (hr.mono (by omega))).un⟩ (hotC_suite hz hf) (by rfl) (pa_cons (pv 0) (pa_cons (pv 1) pa_nil))) pe_int (nomark _)))))))
    (pss_one (ps_ret pe_bl))), ?_⟩
    refine ⟨_, rfl, _, rfl, a, .ref b, ks, es, rfl, ha, kso, hv, ik, l4, fun hn H1 p s1 np hp => ?_, fun c hc H1 dx u s1 hdx hu => ?_⟩
    · rw [hn] at q
      exact q _ s1
    · obtain ⟨f1, f2, f3⟩ := cf_fits hc l4
      rw [hc] at hd q
      obtain ⟨t, rfl, ht⟩ : CfV H dv c := hd
      refine ⟨true, I1.em, fun _ x na => ?_, fun z => by cases z⟩
      refine ⟨_, rfl, rfl, rfl, dx, _, _, rfl, hdx, rfl, .inr ⟨u, dCfN c, rfl, dp_cf hu H1 (Same.refl _), f1, f2, f3, ?_⟩⟩
      refine ⟨_, rfl, .inr ⟨t, dCfN c, rfl, dp_cf (s1 _ _ ht) H1 (Same.refl _), f1, f2, f3, ?_⟩⟩
      refine ⟨rfl, _, rfl, ?_⟩
      rw [decide_eq_true rfl]
      refine iteT ⟨_, rfl, _, rfl, a, .ref b, ks, es, rfl, ha.same s1, kso, hv.same s1, ik, l4, fun H2 s2 => ?_⟩
      rw [cnt_zero (ks_nodup kso) ik (by rw [hc]; exact fun z => by cases z)]
      exact ⟨rfl, q _ (s1.trans s2)⟩
end
end UP

set_option Elab.async false
set_option linter.all false
set_option maxRecDepth 100000
set_option maxHeartbeats 4000000
set_option pp.maxSteps 700
namespace UP
open PySem PySem.Spec PyProof.Rows L2
theorem sl_listK {X : Cx} {K : PySem.W.Frag} (h : X.K = K) : SlR X (rSlL K) := h ▸ sl_list
/-- a number or None -/
def noV : Option Nat → V
  | none => .non
  | some n => .int (n : Int)
theorem head_no (l : List Nat) : (l.map nvV ++ [V.non])[0]? = some (noV l.head?) := by
  cases l <;> rfl
section
variable {P : Program} {w : World} {K : PySem.W.Frag} {mg : Str → Option Value} {base : Heap}
/-! _law_first_misfit: slots 0:kinds 1:record 2:bad 3:stop -/
abbrev s_law_first_misfit : Stmt := topS 48
theorem sc_law_first_misfit : FnScope ["kinds", "record", "bad", "stop"] ["kinds", "record"] (defScope s_law_first_misfit) := ⟨rfl, rfl, rfl, by decide +kernel, rfl, by decide +kernel, by decide +kernel⟩
def sp_law_first_misfit : Sp := fun vs H Q _ => ∃ (a b : Addr) (ks : List Str) (es : List En), vs = [.ref a, .ref b] ∧ H a = some (.lst (ks.map V.str)) ∧ KsOk ks ∧ ks.length ≤ 3 ∧ Rec H b es ∧ es.length ≤ 6 ∧ InK ks es ∧
  ∀ H', Same H H' → Q (noV ((cfE ks es).map lsC)) H'
theorem ok_law_first_misfit (D : Df K mg "_law_first_misfit" s_law_first_misfit) (T : Tx mg) (G_law_fitting : Has P w K mg base 2 "_law_fitting" ["kinds", "record"] sp_law_fitting) : Has P w K mg base 3 "_law_first_misfit" ["kinds", "record"] sp_law_first_misfit := by
  refine has_of D sc_law_first_misfit (fun _ _ _ _ _ _ us hl => match us, hl with | [_, _], _ => rfl) (fun vs H Q E h => ?_) (fun f cdv A outer s₀ H vs Q E hr h => ?_)
  · obtain ⟨_, _, _, _, rfl, _⟩ := h
    rfl
  · obtain ⟨a, b, ks, es, rfl, ha, kso, k3, ⟨xs, hx, hxp⟩, l6, ik, q⟩ := h
    have nd := ks_nodup kso
    have lx := Paired.len hxp
    refine ⟨_, (pss_cons (ps_setLc (i := 2) (own := [("stop", 3)]) rfl sc_law_first_misfit.nd rfl rfl (sw_true rfl rfl rfl (by decide +kernel)) (pi_range1 (by rfl) T.n_range (pa_cons (pe_callB call_len_seq (by rfl) T.n_len (by decide +kernel) (pa_cons (pv 1) pa_nil)) pa_nil)) (blkOk_by (N := ["kinds", "record", "bad", "stop"]) (sc := defScope s_law_first_misfit) (by decide +kernel)) (fun _ _ _ _ _ => (pg_name (i := 3) sc_law_first_misfit.nd rfl (by first | exact Or.inl rfl | exact Or.inr rfl))) (fun _ _ _ _ _ => pts_one (pt_cmpR (op_eqDK (K := K) rfl hr.units) (pe_callH G_law_fitting (hr.mono (by omega)) (by rfl) (pa_cons (pv 0) (pa_cons (pe_slice (sl_listK (K := K) rfl) (pv 1) po_none (po_some (pe_op op_add (pv 3) pe_int))) pa_nil))) (pe_lst pa_nil) (nomark _))) (fun _ _ _ _ _ => (pv 3)))
    (pss_one (ps_ret (pe_ix ix_list (pe_op op_cat (pv 2) (pe_lst (pa_cons pe_non pa_nil))) pe_int (fun _ _ => rfl))))), ?_⟩
    refine ⟨_, rfl, b, xs, rfl, .inl (.of hx), _, rfl, by omega, by rw [lx]; omega, fun L nL => lc_range (lo := 0) (n := ((xs.length : Nat) : Int).toNat) (fun i H' => Same H H' ∧ H' L = some (.lst (((List.range i).filter fun j => (cfE ks (es.take (j + 1))).isSome).map nvV))) ⟨same_upd nL, upd_same⟩ (fun i H3 hi p => ?_) (fun H3 p => ?_)⟩
    · obtain ⟨sm, hL⟩ := p
      have hi : i < es.length := by rw [← lx]; exact hi
      have hx3 := sm _ _ hx
      have hk3 := sm _ _ ha
      refine ⟨rfl, _, rfl, _, rfl, _, rfl, _, _, rfl, rfl, _, rfl, b, xs, rfl, .of hx3, fun S nS => ?_⟩
      rw [cutV_tk _ _ (by omega), show ((0 : Int) + (i : Int) + 1).toNat = i + 1 by omega]
      have sS := same_upd (o := .lst (xs.take (i + 1))) nS
      have hS : (upd H3 S (.lst (xs.take (i + 1)))) S = some (.lst (xs.take (i + 1))) := upd_same
      have s4 := sm.trans sS
      have hL4 := sS _ _ hL
      have nL4 : H L = none := nL
      generalize upd H3 S (.lst (xs.take (i + 1))) = H4 at *
      have ik' : InK ks (es.take (i + 1)) := fun e he => ik e (List.mem_of_mem_take he)
      refine ⟨a, S, ks, es.take (i + 1), rfl, s4 _ _ ha, kso, k3, ⟨_, hS, take_pair _ (Paired.imp (fun _ _ z => EnV.same s4 z) hxp)⟩, by rw [List.length_take]; omega, ik', fun H5 p refs s5 np hp hrs => ?_⟩
      have inr : ∀ row ∈ genE ks (epsE (es.take (i + 1))), row.length = (es.take (i + 1)).length ∧ ∀ x ∈ row, x ∈ ks := fun row hm => allC_mem (gen_in nd ik' hm)
      have lt6 : (es.take (i + 1)).length ≤ 6 := by rw [List.length_take]; omega
      have lgen : (genE ks (epsE (es.take (i + 1)))).length ≤ 729 := by
        rw [← due_law nd ik']
        refine Nat.le_trans (List.length_filter_le _ _) (Nat.le_trans (List.length_filter_le _ _) ?_)
        rw [allC_len]
        exact Nat.le_trans (Nat.pow_le_pow_left k3 _) (Nat.le_trans (Nat.pow_le_pow_right (by decide) lt6) (by decide))
      have shr : SeqAt.shaped (.list ((genE ks (epsE (es.take (i + 1)))).map fun r => .list (r.map .str))) = true := shaped_rows (fun r hr => ⟨fun k hk => kso.2.2.1 k ((inr r hr).2 k hk), by have := (inr r hr).1; omega⟩) lgen
      have emp : ((genE ks (epsE (es.take (i + 1)))).map fun r => PyData.list (r.map .str)).isEmpty = (cfE ks (es.take (i + 1))).isSome := by
        cases hc : cfE ks (es.take (i + 1)) with
        | some c => rw [(gen_cf nd ik').mpr (by rw [hc]; exact fun z => by cases z)]; rfl
        | none =>
          cases hg : genE ks (epsE (es.take (i + 1))) with
          | nil => exact absurd hg (cf_gen nd ik' hc).2
          | cons a b => rfl
      refine ⟨Nat.zero_le _, fun e ne => ?_⟩
      have se := same_upd (o := .lst []) ne
      have hL6 := se _ _ (s5 _ _ hL4)
      have S6 := s4.trans (s5.trans se)
      refine ⟨_, .list [], .lst (.of (se _ _ hp)) (dp_rows (Paired.imp (fun _ _ z => StrsV.same se z) hrs)), .lst (.of upd_same) .nil, shr, shaped_nil, _, rfl, ?_⟩
      rw [eqv_nilD, emp, List.range_succ, List.filter_append, List.map_append]
      have llen : (((List.range i).filter fun j => (cfE ks (es.take (j + 1))).isSome).map nvV).length < sizeLine := by
        have h1 := List.length_filter_le (fun j => (cfE ks (es.take (j + 1))).isSome) (List.range i)
        rw [List.length_range] at h1
        rw [List.length_map]
        exact small (by omega)
      cases hc : (cfE ks (es.take (i + 1))).isSome with
      | false =>
        refine iteF ⟨S6, ?_⟩
        rw [show (List.filter (fun j => (cfE ks (es.take (j + 1))).isSome) [i]) = [] by simp only [List.filter_cons, List.filter_nil, hc]; rfl, List.map_nil, List.append_nil]
        exact hL6
      | true =>
        refine iteT ⟨_, rfl, _, hL6, llen, same_grow nL S6, ?_⟩
        rw [upd_same, show (List.filter (fun j => (cfE ks (es.take (j + 1))).isSome) [i]) = [i] by simp only [List.filter_cons, List.filter_nil, hc]; rfl, show (0 : Int) + (i : Int) = (i : Nat) by omega]
        rfl
    · obtain ⟨sm, hL⟩ := p
      rw [show ((xs.length : Nat) : Int).toNat = es.length by omega] at hL
      have lb : (((List.range es.length).filter fun j => (cfE ks (es.take (j + 1))).isSome).map nvV).length ≤ 6 := by
        have h1 := List.length_filter_le (fun j => (cfE ks (es.take (j + 1))).isSome) (List.range es.length)
        rw [List.length_range] at h1
        rw [List.length_map]
        omega
      refine ⟨_, rfl, (by show 1 ≤ sizeLine; decide), fun m nm => ?_⟩
      have sm2 := same_upd (o := .lst [.non]) nm
      refine ⟨L, m, _, _, rfl, rfl, sm2 _ _ hL, upd_same, Nat.le_of_lt (small (by show _ + 1 ≤ _; omega)), fun p np => ?_⟩
      refine ⟨p, _, 0, _, rfl, rfl, .of upd_same, ?_, q _ (sm.trans (sm2.trans (same_upd np)))⟩
      refine atI_ofB (by decide) ?_
      rw [← misfits]
      exact head_no _
end
end UP

set_option Elab.async false
set_option linter.all false
set_option maxRecDepth 100000
set_option maxHeartbeats 8000000
set_option pp.maxSteps 700
namespace UP
open PySem PySem.Spec PyProof.Rows L2
def dCfO : Option Cf → PyData
  | none => .none
  | some c => dCfN c
theorem rep_cf {K : PySem.W.Frag} {H : Hp} {v : V} {ks : List Str} {es : List En} (h : CfO H v (cfE ks es)) (l4 : es.length ≤ 400) {Q : VK} (q : Q (.str (dCfO (cfE ks es)).shown) H) : rReprV K [v] H Q := by
  cases hc : cfE ks es with
  | none =>
    rw [hc] at h q
    cases (show v = .non from h)
    exact .inl ⟨rfl, q⟩
  | some c =>
    obtain ⟨f1, f2, f3⟩ := cf_fits hc l4
    rw [hc] at h q
    obtain ⟨t, rfl, ht⟩ : CfV H v c := h
    exact .inr ⟨t, _, rfl, dp_cf ht H (Same.refl _), f1, f2, f3, q⟩
theorem cfo_non {H : Hp} {v : V} {o : Option Cf} (h : CfO H v o) : (!decide (v = V.non)) = o.isSome := by
  cases o with
  | none => rw [show v = V.non from h]; rfl
  | some c =>
    obtain ⟨t, rfl, _⟩ : CfV H v c := h
    rfl
theorem cf_lastV {c : Cf} : atI (cfL c) (-1) = some (.int (lsC c : Nat)) := by
  cases c <;> rfl
theorem bag_live {H : Hp} {p cl : Addr} {n : Nat} (z : Bag H p cl n) {x : Addr} (h : H x = none) : p ≠ x ∧ cl ≠ x := by
  obtain ⟨b, h1, h2, _⟩ := z
  exact ⟨fun e => (by rw [e, h] at h1; cases h1), fun e => (by rw [e, h] at h2; cases h2)⟩
section
variable {P : Program} {w : World} {K : PySem.W.Frag} {mg : Str → Option Value} {base : Heap}
/-! _law_right: slots 0:bag 1:kinds 2:record 3:due 4:passed 5:kept 6:step -/
abbrev s_law_right : Stmt := topS 50
theorem sc_law_right : FnScope ["bag", "kinds", "record", "due", "passed", "kept", "step"] ["bag", "kinds", "record"] (defScope s_law_right) := ⟨rfl, rfl, rfl, by decide +kernel, rfl, by decide +kernel, by decide +kernel⟩
def sp_law_right : Sp := fun vs H Q _ => ∃ (pb cl ka ra : Addr) (n : Nat) (ks : List Str) (es : List En), vs = [.ref pb, .ref ka, .ref ra] ∧ Bag H pb cl n ∧ n ≤ 1000000 ∧ H ka = some (.lst (ks.map V.str)) ∧ ka ≠ pb ∧ KsOk ks ∧ Rec H ra es ∧ ra ≠ pb ∧ ra ≠ cl ∧ ra ≠ ka ∧ es.length ≤ 400 ∧ InK ks es ∧ ∀ H', Bag H' pb cl (n + 501) → H' ka = some (.lst (ks.map V.str)) → Q (.bl true) H'
theorem ok_law_right (D : Df K mg "_law_right" s_law_right) (T : Tx mg) (G_law_conflict : Has P w K mg base 1 "_law_conflict" ["kinds", "record"] sp_law_conflict) (G_law_either : Has P w K mg base 3 "_law_either" ["bag", "items"] sp_law_either) (G_law_dressed : Has P w K mg base 4 "_law_dressed" ["bag", "record"] sp_law_dressed) (G_conflict_of : Has P w K mg base 5 "conflict_of" ["kinds", "record"] sp_conflict_of)
    (G_law_contradicts : HasG P w K mg base 7 "_law_contradicts" ["kinds", "record", "due"] sp_law_contradicts) : HasG P w K mg base 8 "_law_right" ["bag", "kinds", "record"] sp_law_right := by
  refine hasG_of D sc_law_right (fun _ _ _ _ _ _ us hl => match us, hl with | [_, _, _], _ => rfl) (fun vs H Q E h => ?_) (fun f cdv A outer s₀ H vs Q E hr gd h => ?_)
  · obtain ⟨_, _, _, _, _, _, _, rfl, _⟩ := h
    rfl
  · obtain ⟨pb, cl, ka, ra, n, ks, es, rfl, z, ln, hk, kp, kso, hrec, rp, rc, rk, l4, ink, q⟩ := h
    have nd := ks_nodup kso
    have oke : ∀ e ∈ es, EnOk e := fun e he k hk => kso.2.2.1 k (ink e he k hk)
    refine ⟨_, (pss_cons (ps_set (i := 3) sc_law_right.nd rfl (by first | exact Or.inl rfl | exact Or.inr rfl) (pe_callH G_law_conflict (hr.mono (by omega)) (by rfl) (pa_cons (pv 1) (pa_cons (pv 2) pa_nil))))
    (pss_cons (ps_set (i := 4) sc_law_right.nd rfl (by first | exact Or.inl rfl | exact Or.inr rfl) (pe_lst (pa_cons (pe_callH G_law_either (hr.mono (by omega)) (by rfl) (pa_cons (pv 0) (pa_cons (pv 1) pa_nil))) (pa_cons (pe_callH G_law_dressed (hr.mono (by omega)) (by rfl) (pa_cons (pv 0) (pa_cons (pv 2) pa_nil))) pa_nil))))
    (pss_cons (ps_set (i := 5) sc_law_right.nd rfl (by first | exact Or.inl rfl | exact Or.inr rfl) (pe_callB (call_reprV gd (room70 hr)) (by rfl) T.n_repr (by decide +kernel) (pa_cons (pv 4) pa_nil)))
    (pss_cons (ps_for PassesOwn.never rfl (pi_range1 (by rfl) T.n_range (pa_cons pe_int pa_nil)) (pg_name (i := 6) sc_law_right.nd rfl (by first | exact Or.inl rfl | exact Or.inr rfl))
      (pss_one (ps_if (PW.pt (pw_or (pt_cmpR op_ne (pe_callB (call_reprV gd (room70 hr)) (by rfl) T.n_repr (by decide +kernel) (pa_cons (pe_callH G_conflict_of (hr.mono (by omega)) (by rfl) (pa_cons (pe_ix ix_list (pv 4) pe_int (fun _ _ => rfl)) (pa_cons (pe_ix ix_list (pv 4) pe_int (fun _ _ => rfl)) pa_nil))) pa_nil)) (pe_callB (call_reprV gd (room70 hr)) (by rfl) T.n_repr (by decide +kernel) (pa_cons (pv 3) pa_nil)) (nomark _)) (pw_or1 (pt_cmpR op_ne (pe_callB (call_reprV gd (room70 hr)) (by rfl) T.n_repr (by decide +kernel) (pa_cons (pv 4) pa_nil)) (pv 5) (nomark _))))) (pss_one (ps_ret pe_bl)) pss_nil)))
    (pss_cons (ps_if (pt_cmpR op_ne (pe_cmpR op_notN (pv 3) pe_non (nomark _)) (pe_callGH G_law_contradicts gd (hr.mono (by omega)) (by rfl) (pa_cons (pv 1) (pa_cons (pv 2) (pa_cons (pv 3) pa_nil)))) (nomark _)) (pss_one (ps_ret pe_bl)) pss_nil)
    (pss_cons (ps_while PassesOwn.never (PW.pt (pw_and (pt_cmpR op_notN (pv 3) pe_non (nomark _)) (pw_and1 (pt_cmpR op_gt (pe_callB call_len_seq (by rfl) T.n_len (by decide +kernel) (pa_cons (pv 2) pa_nil)) (pe_ix ix_tup (pv 3) (pe_un un_neg pe_int) (fun _ _ => rfl)) (nomark _)))))
      (pss_one (ps_expr (pe_bm0 PySem.F.plainAttrs_list PySem.F.slot_list_pop PySem.F.type_list_pop mt_pop (pv 2)))))
    (pss_one (ps_ret (pe_cmpR op_isN (pe_callH G_conflict_of (hr.mono (by omega)) (by rfl) (pa_cons (pv 1) (pa_cons (pv 2) pa_nil))) pe_non (nomark _)))))))))), ?_⟩
    -- due
    refine ⟨_, rfl, _, rfl, ka, ra, ks, es, rfl, hk, kso, hrec, ink, l4, fun H1 dv s1 hd => ?_⟩
    have z1 := z.same s1
    have hk1 := s1 _ _ hk
    have hrec1 := hrec.same s1
    -- passed
    refine ⟨_, rfl, _, rfl, pb, cl, ka, n, _, rfl, z1, by omega, .inl hk1, kp, fun H2 k1 b2 z2 k1p hk2 => ?_⟩
    have hrec2 := hrec1.bagT z1 b2 rp
    refine ⟨_, rfl, _, rfl, pb, cl, ra, n + 1, es, rfl, z2, by omega, hrec2, rp, by omega, fun H3 r1 b3 z3 r1p hr3 hr3x => ⟨(by show 2 ≤ sizeLine; decide), fun PA nPA => ?_⟩⟩
    obtain ⟨xs, hxs, hxp, xne⟩ := hr3x
    have sP := same_upd (o := .lst [.ref k1, .ref r1]) nPA
    have hPA : (upd H3 PA (.lst [.ref k1, .ref r1])) PA = some (.lst [.ref k1, .ref r1]) := upd_same
    have z4 := z3.same sP
    have b04 : But pb H1 (upd H3 PA (.lst [.ref k1, .ref r1])) := b2.trans (b3.trans (Same.but sP))
    have hk4 : Sq2 (upd H3 PA (.lst [.ref k1, .ref r1])) k1 (ks.map V.str) := (hk2.bagT z2 b3 k1p).same sP
    have hx4 : Sq2 (upd H3 PA (.lst [.ref k1, .ref r1])) r1 xs := hxs.same sP
    have hxp4 : Paired (EnG (upd H3 PA (.lst [.ref k1, .ref r1]))) xs es := Paired.imp (fun _ _ z => EnG.same sP z) hxp
    have hka4 := b04 _ _ kp hk1
    have hra4 : Rec (upd H3 PA (.lst [.ref k1, .ref r1])) ra es := Rec.same sP (Rec.bagT z2 b3 rp hrec2)
    generalize upd H3 PA (.lst [.ref k1, .ref r1]) = H4 at *
    have gr : RecG H4 (.ref r1) es := ⟨r1, xs, rfl, hx4, hxp4⟩
    obtain ⟨dP, gD, f1, f2, f3⟩ := dp_passed (K := K) hPA hk4 kso.2.2.1 kso.2.1 hx4 hxp4 oke (by omega)
    have hd4 : CfO H4 dv (cfE ks es) := by
      cases hc : cfE ks es with
      | none => rw [hc] at hd; exact hd
      | some c =>
        rw [hc] at hd
        obtain ⟨t, rfl, ht⟩ : CfV H1 dv c := hd
        obtain ⟨b, hb, _⟩ := z1
        exact ⟨t, rfl, b04 _ _ (fun e => by rw [e, hb] at ht; cases ht) ht⟩
    refine ⟨_, rfl, .inr ⟨PA, dP, rfl, gD _ (Same.refl _), f1, f2, f3, ?_⟩⟩
    dsimp only
    refine ⟨2, rfl, by decide, by decide, for_range (lo := 0) (n := (2 : Int).toNat) (fun i σ H' => ∃ y6, σ = [some (.ref pb), some (.ref ka), some (.ref ra), some dv, some (.ref PA), some (.str dP.shown), y6] ∧ Same H4 H') ⟨_, rfl, Same.refl _⟩ (fun i σ H5 hi hP => ?_) (fun σ H5 hP => ?_)⟩
    · obtain ⟨y6, rfl, s5⟩ := hP
      refine ⟨_, rfl, PA, _, 0, _, rfl, rfl, .of (s5 _ _ hPA), at0, _, rfl, PA, _, 1, _, rfl, rfl, .of (s5 _ _ hPA), at1, k1, .ref r1, ks, es, rfl, hk4.same s5, kso, gr.same s5, ink, by omega, fun H6 v s6 hv => ?_⟩
      have s56 := s5.trans s6
      dsimp only [tNil]
      refine rep_cf hv l4 ?_
      refine ⟨_, rfl, ?_⟩
      dsimp only [tNil]
      refine rep_cf (hd4.same s56) l4 ?_
      refine ⟨rfl, _, rfl, iteN (by rw [decide_eq_true rfl]; rfl) ?_⟩
      refine ⟨_, rfl, .inr ⟨PA, dP, rfl, gD _ s56, f1, f2, f3, _, rfl, rfl, _, rfl, iteN (by rw [decide_eq_true rfl]; rfl) ?_⟩⟩
      exact ⟨_, rfl, s56⟩
    · obtain ⟨y6, rfl, s5⟩ := hP
      have hk5 := s5 _ _ hka4
      have hra5 := hra4.same s5
      have hd5 := hd4.same s5
      have z5 := z4.same s5
      refine ⟨_, rfl, rfl, _, rfl, _, rfl, _, rfl, ka, ra, dv, ks, es, rfl, .inl hk5, kso, hra5.dress, ink, l4, hd5, fun H6 s6 => ⟨rfl, _, rfl, iteN (by rw [cfo_non hd5, decide_eq_true rfl]; rfl) ?_⟩⟩
      have hk6 := s6 _ _ hk5
      have hra6 := hra5.same s6
      have hd6 := hd5.same s6
      have z6 := z5.same s6
      unfold tNext
      dsimp only
      obtain ⟨xs6, hx6, hp6⟩ := hra6
      have lx := Paired.len hp6
      obtain ⟨n0, e0⟩ : ∃ n0, n0 = ((cfE ks es).map lsC).getD es.length := ⟨_, rfl⟩
      have n0l : n0 ≤ es.length := by
        rw [e0]
        cases hc : cfE ks es with
        | none => exact Nat.le_refl _
        | some c => exact Nat.le_of_lt (cfE_first hc).1
      have pre0 : cfE ks (es.take n0) = none := by
        cases hc : cfE ks es with
        | none => exact cfE_preN hc n0l
        | some c =>
          rw [cfE_pre hc n0l, if_neg]
          rw [e0, hc]
          exact Nat.lt_irrefl _
      have fin : ∀ {H7 : Hp} {σ : L2.St}, σ = [some (.ref pb), some (.ref ka), some (.ref ra), some dv, some (.ref PA), some (.str dP.shown), y6] → But ra H6 H7 → H7 ra = some (.lst (xs6.take n0)) → tRet (tOp (fun x y H Q => y = V.non ∧ Q (V.bl (decide (x = V.non))) H) (tCall sp_conflict_of [] E0 (tCons (tVar 1) (tCons (tVar 2) tNil))) (tC V.non)) { nx := fun x H' => Q V.non H', rt := Q } σ H7 := fun {H7 σ} es7 b7 h7 => by
        subst es7
        refine ⟨_, rfl, _, rfl, ka, .ref ra, ks, es.take n0, rfl, .inl (b7 _ _ rk.symm hk6), kso, Rec.dress ⟨_, h7, take_pair _ (Paired.imp (fun _ _ z => z.tk fun t ys e => b7 _ _ (fun e2 => by rw [e2, hx6] at e; cases e) e) hp6)⟩, fun e he => ink e (List.mem_of_mem_take he), by rw [List.length_take]; omega, fun H8 v s8 hv => ?_⟩
        rw [pre0] at hv
        rw [show v = .non from hv]
        refine ⟨rfl, ?_⟩
        rw [decide_eq_true rfl]
        refine q _ ?_ (s8 _ _ (b7 _ _ rk.symm hk6))
        have zz := z6.keep (H' := H7) (fun o e => b7 _ _ rp.symm e) (fun o e => b7 _ _ rc.symm e)
        exact (zz.same s8).mono (by omega)
      refine ⟨fun m σ H' => σ = [some (.ref pb), some (.ref ka), some (.ref ra), some dv, some (.ref PA), some (.str dP.shown), y6] ∧ But ra H6 H' ∧ H' ra = some (.lst (xs6.take (n0 + m))) ∧ n0 + m ≤ es.length, ⟨es.length - n0, rfl, But.refl, by rw [show n0 + (es.length - n0) = es.length by omega, List.take_of_length_le (by omega)]; exact hx6, by omega⟩, ?_⟩
      rintro m σ H7 ⟨rfl, b7, h7, lm⟩
      have b7 : But ra H6 H7 := b7
      cases hc : cfE ks es with
      | none =>
        rw [hc] at e0
        have m0 : m = 0 := by have : n0 = es.length := e0; omega
        subst m0
        cases (show dv = .non by rw [hc] at hd6; exact hd6)
        refine ⟨_, rfl, rfl, _, rfl, ?_⟩
        rw [decide_eq_true rfl]
        exact iteF (iteF (fin rfl b7 h7))
      | some c =>
        rw [hc] at e0 hd6
        obtain ⟨t, rfl, ht⟩ : CfV H6 dv c := hd6
        have e0 : n0 = lsC c := e0
        have ht7 := b7 _ _ (fun e2 => by rw [e2, hx6] at ht; cases ht) ht
        refine ⟨_, rfl, rfl, _, rfl, iteP rfl ?_⟩
        have l7 : (xs6.take (n0 + m)).length = n0 + m := by rw [List.length_take]; omega
        refine ⟨_, rfl, ra, _, rfl, .inl (.of h7), _, rfl, _, rfl, t, _, _, _, rfl, rfl, .of ht7, cf_lastV, _, _, rfl, rfl, _, rfl, ?_⟩
        rw [l7, ← e0]
        by_cases c0 : m = 0
        · subst c0
          rw [decide_eq_false (by omega)]
          exact iteF (fin rfl b7 h7)
        · rw [decide_eq_true (by omega)]
          refine iteT ⟨_, fun σ' H' h => ⟨m - 1, by omega, h⟩, ?_⟩
          obtain ⟨y, hy⟩ : ∃ y, (xs6.take (n0 + m))[(xs6.take (n0 + m)).length - 1]? = some y := ⟨_, List.getElem?_eq_getElem (by omega)⟩
          refine ⟨_, rfl, .inl ⟨rfl, _, SqL.of h7⟩, ra, _, y, rfl, rfl, h7, hy, ?_⟩
          refine ⟨rfl, b7.trans but_upd, ?_, by omega⟩
          rw [upd_same, List.dropLast_eq_take, l7, List.take_take, show min (n0 + m - 1) (n0 + m) = n0 + (m - 1) by omega]
end
end UP

set_option Elab.async false
set_option linter.all false
set_option maxRecDepth 100000
set_option maxHeartbeats 8000000
set_option pp.maxSteps 900
namespace UP
open PySem PySem.Spec PyProof.Rows L2
theorem ixE {n : Nat} {i : Int} (h0 : 0 ≤ i) (h1 : i < n) : ixN n i = some i.toNat := by
  unfold ixN
  rw [if_pos h0, if_pos (by omega)]
theorem paired_set {α β : Type} {F : α → β → Prop} {x : α} {y : β} (h : F x y) : ∀ {xs : List α} {ys : List β} (n : Nat), Paired F xs ys → Paired F (xs.set n x) (ys.set n y)
  | _, _, _, .nil => .nil
  | _, _, 0, .cons _ t => .cons h t
  | _, _, n + 1, .cons a t => .cons a (paired_set h n t)
theorem ko_at {ks : List Str} {r : Int} (h0 : 0 ≤ r) (h1 : r < ks.length + 1) : ∃ k : Option Str, atI ([V.non] ++ ks.map V.str) r = some (koV k) ∧ ∀ s, k = some s → s ∈ ks := by
  obtain ⟨m, rfl⟩ := Int.eq_ofNat_of_zero_le h0
  cases m with
  | zero => exact ⟨none, atI_ofB (Int.le_refl _) rfl, fun s z => by cases z⟩
  | succ m =>
    have hm : m < ks.length := by omega
    refine ⟨some ks[m], atI_ofB h0 ?_, fun s z => ?_⟩
    · show (V.non :: ks.map V.str)[m + 1]? = _
      rw [List.getElem?_cons_succ, List.getElem?_map, List.getElem?_eq_getElem hm]
      rfl
    · cases z
      exact List.getElem_mem hm
theorem act_at {r : Int} (h0 : 0 ≤ r) (h1 : r < 2) : ∃ b, atI [V.str "waits", V.str "leaves"] r = some (V.str (actS b)) := by
  rcases (show r = 0 ∨ r = 1 by omega) with e | e
  · rw [e]
    exact ⟨true, rfl⟩
  · rw [e]
    exact ⟨false, rfl⟩
section
variable {P : Program} {w : World} {K : PySem.W.Frag} {mg : Str → Option Value} {base : Heap}
/-! _law_replaced: slots 0:bag 1:kinds 2:record 3:found 4:step 5:kind -/
abbrev s_law_replaced : Stmt := topS 51
theorem sc_law_replaced : FnScope ["bag", "kinds", "record", "found", "step", "kind"] ["bag", "kinds", "record"] (defScope s_law_replaced) := ⟨rfl, rfl, rfl, by decide +kernel, rfl, by decide +kernel, by decide +kernel⟩
def sp_law_replaced : Sp := fun vs H Q _ => ∃ (pb cl ka ra : Addr) (n : Nat) (ks : List Str) (es : List En), vs = [.ref pb, .ref ka, .ref ra] ∧ Bag H pb cl n ∧ n ≤ 1000000 ∧ H ka = some (.lst (ks.map V.str)) ∧ ka ≠ pb ∧ KsOk ks ∧ Rec H ra es ∧ ra ≠ pb ∧ es.length ≤ 400 ∧ InK ks es ∧
  ∀ H' q fs, But pb H H' → Bag H' pb cl (n + 10) → H q = none → q ≠ pb → Rec H' q fs → InK ks fs → fs.length ≤ 400 → Q (.ref q) H'
theorem ok_law_replaced (D : Df K mg "_law_replaced" s_law_replaced) (T : Tx mg) (G_law_draw : Has P w K mg base 2 "_law_draw" ["bag", "bound"] sp_law_draw) : Has P w K mg base 3 "_law_replaced" ["bag", "kinds", "record"] sp_law_replaced := by
  refine has_of D sc_law_replaced (fun _ _ _ _ _ _ us hl => match us, hl with | [_, _, _], _ => rfl) (fun vs H Q E h => ?_) (fun f cdv A outer s₀ H vs Q E hr h => ?_)
  · obtain ⟨_, _, _, _, _, _, _, rfl, _⟩ := h
    rfl
  · obtain ⟨pb, cl, ka, ra, n, ks, es, rfl, z, ln, hk, kp, kso, ⟨xs, hx, hxp⟩, rp, l4, ink, q⟩ := h
    have nd := ks_nodup kso
    have l0 := kso.1
    have l12 := kso.2.1
    have oke : ∀ e ∈ es, EnOk e := fun e he k hk => kso.2.2.1 k (ink e he k hk)
    have lx := Paired.len hxp
    refine ⟨_, (pss_cons (ps_set (i := 3) sc_law_replaced.nd rfl (by first | exact Or.inl rfl | exact Or.inr rfl) (pe_callTy call_list_of (by rfl) T.n_list (by decide +kernel) (pa_cons (pv 2) pa_nil)))
    (pss_cons (ps_for PassesOwn.never rfl (pi_range1 (by rfl) T.n_range (pa_cons (pe_op op_mulW (pe_callH G_law_draw (hr.mono (by omega)) (by rfl) (pa_cons (pv 0) (pa_cons pe_int pa_nil))) (pe_callTy call_int1 (by rfl) T.n_int (by decide +kernel) (pa_cons (pe_cmpR (op_neD hr.units) (pv 2) (pe_lst pa_nil) (nomark _)) pa_nil))) pa_nil)) (pg_name (i := 4) sc_law_replaced.nd rfl (by first | exact Or.inl rfl | exact Or.inr rfl))
      (pss_cons (ps_set (i := 5) sc_law_replaced.nd rfl (by first | exact Or.inl rfl | exact Or.inr rfl) (pe_ix ix_list (pe_op op_cat (pe_lst (pa_cons pe_non pa_nil)) (pv 1)) (pe_callH G_law_draw (hr.mono (by omega)) (by rfl) (pa_cons (pv 0) (pa_cons (pe_op op_add (pe_callB call_len_seq (by rfl) T.n_len (by decide +kernel) (pa_cons (pv 1) pa_nil)) pe_int) pa_nil))) (fun _ _ => rfl)))
    (pss_one (ps_asg (pe_tup (pa_cons (pv 5) (pa_cons (pe_ix ix_list (pe_lst (pa_cons pe_str (pa_cons pe_str pa_nil))) (pe_callH G_law_draw (hr.mono (by omega)) (by rfl) (pa_cons (pv 0) (pa_cons pe_int pa_nil))) (fun _ _ => rfl)) pa_nil))) (pg_sub (pv 3) (pe_callH G_law_draw (hr.mono (by omega)) (by rfl) (pa_cons (pv 0) (pa_cons (pe_callB call_len_seq (by rfl) T.n_len (by decide +kernel) (pa_cons (pv 3) pa_nil)) pa_nil))) set_list)))))
    (pss_one (ps_ret (pv 3))))), ?_⟩
    refine ⟨_, rfl, ra, _, rfl, .inl (.of hx), fun F nF => ?_⟩
    have sF := same_upd (o := .lst xs) nF
    have hF : (upd H F (.lst xs)) F = some (.lst xs) := upd_same
    have zF := z.same sF
    have Fp : F ≠ pb := z.ne nF
    have Fk : F ≠ ka := fun e => by rw [e, hk] at nF; cases nF
    have hkF := sF _ _ hk
    have hxpF := Paired.imp (fun _ _ y => EnV.same sF y) hxp
    have hxF := sF _ _ hx
    have lvF := (bag_live z nF).2
    have b1 : But pb H (upd H F (.lst xs)) := Same.but sF
    generalize upd H F (.lst xs) = H1 at *
    refine ⟨_, rfl, pb, cl, n, 4, rfl, zF, by omega, by decide, by decide, fun H2 r2 b2 z2 r20 r21 => ?_⟩
    have hx2 := b2 _ _ rp hxF
    have hxp2 := Paired.imp (fun _ _ y => EnV.bagT zF b2 y) hxpF
    obtain ⟨ds, dD, dl, dn⟩ := dp_engs (K := K) (Paired.imp (fun _ _ z => EnV.dress z) hxp2) oke
    have dsh := ((nice_list dn).fits (by omega) (by decide)).2.1
    refine ⟨_, rfl, Nat.zero_le _, fun e ne => ?_⟩
    have se := same_upd (o := .lst []) ne
    refine ⟨.list ds, .list [], .lst (.of (se _ _ hx2)) (dD _ se), .lst (.of upd_same) .nil, dsh, shaped_nil, ?_⟩
    rw [eqv_nilD]
    have z3 := z2.same se
    have hk3 := se _ _ (b2 _ _ kp hkF)
    have hF3 := se _ _ (b2 _ _ Fp hF)
    have hp3 := Paired.imp (fun _ _ y => EnV.same se y) hxp2
    have b13 : But pb H (upd H2 e (.lst [])) := b1.trans (b2.trans (Same.but se))
    generalize upd H2 e (.lst []) = H3 at *
    obtain ⟨N, eN⟩ : ∃ N : Int, N = r2 * (if (!ds.isEmpty) = true then 1 else 0) := ⟨_, rfl⟩
    have hN : 0 ≤ N ∧ N < 4 := by
      rw [eN]
      split <;> omega
    have hN2 : 0 < N → 1 ≤ es.length := fun h => by
      rw [eN] at h
      cases hds : ds with
      | nil => rw [hds] at h; exact absurd h (by show ¬ 0 < r2 * 0; omega)
      | cons d0 dr => rw [← dl, hds]; exact Nat.succ_le_succ (Nat.zero_le _)
    refine Or.inr ⟨_, rfl, _, _, rfl, rfl, wide_mul (a := 8) (b := 8) (by omega) (by split <;> decide) (by decide) (by decide) (by decide), ?_⟩
    refine ⟨N, congrArg (fun z => [V.int z]) eN.symm, by omega, by omega, for_range (lo := 0) (n := N.toNat) (fun i σ H' => ∃ (y4 y5 : Option V) (xs' : List V) (fs : List En), σ = [some (.ref pb), some (.ref ka), some (.ref ra), some (.ref F), y4, y5] ∧ But pb H H' ∧ Bag H' pb cl (n + 1 + 3 * i) ∧ H' ka = some (.lst (ks.map V.str)) ∧ H' F = some (.lst xs') ∧ Paired (EnV H') xs' fs ∧ InK ks fs ∧ fs.length = es.length)
      ⟨_, _, _, es, rfl, b13, z3, hk3, hF3, hp3, ink, rfl⟩ (fun i σ H4 hi hP => ?_) (fun σ H4 hP => ?_)⟩
    · obtain ⟨y4, y5, xs4, fs, rfl, b4, z4, hk4, hF4, hp4, ik4, lf⟩ := hP
      have l1 : 1 ≤ es.length := hN2 (by omega)
      refine ⟨(by show 1 ≤ sizeLine; decide), fun m nm => ?_⟩
      have sm := same_upd (o := .lst [.non]) nm
      refine ⟨_, rfl, m, ka, _, _, rfl, rfl, upd_same, sm _ _ hk4, Nat.le_of_lt (small (by rw [List.length_map]; show 1 + _ ≤ _; omega)), fun p np => ?_⟩
      have sp := sm.trans (same_upd (o := .lst ([.non] ++ ks.map V.str)) np)
      have hp5 : (upd (upd H4 m (.lst [.non])) p (.lst ([.non] ++ ks.map V.str))) p = some (.lst ([.non] ++ ks.map V.str)) := upd_same
      have z5 := z4.same sp
      have pp := z4.ne (sm.free np)
      have hk5 := sp _ _ hk4
      have hF5 := sp _ _ hF4
      have hq5 := Paired.imp (fun _ _ y => EnV.same sp y) hp4
      have b5 := b4.trans (Same.but sp)
      generalize upd (upd H4 m (.lst [.non])) p (.lst ([.non] ++ ks.map V.str)) = H5 at *
      refine ⟨_, rfl, _, rfl, ka, _, rfl, .inl (.of hk5), _, _, rfl, rfl, pb, cl, _, _, rfl, z5, by omega, by rw [List.length_map]; omega, wideB (by omega) (by rw [List.length_map]; omega), fun H6 r6 b6 z6 r60 r61 => ?_⟩
      rw [List.length_map] at r61
      obtain ⟨kk, ekk, ikk⟩ := ko_at r60 r61
      have hp6 := b6 _ _ pp hp5
      refine ⟨p, _, r6, _, rfl, rfl, .of hp6, ekk, ?_⟩
      dsimp only
      refine ⟨_, rfl, (by show 2 ≤ sizeLine; decide), fun l nl => ?_⟩
      have sl := same_upd (o := .lst [.str "waits", .str "leaves"]) nl
      have hl : (upd H6 l (.lst [.str "waits", .str "leaves"])) l = some (.lst [.str "waits", .str "leaves"]) := upd_same
      have lp := z6.ne nl
      have z7 := z6.same sl
      have hk7 := sl _ _ (b6 _ _ kp hk5)
      have hF7 := sl _ _ (b6 _ _ Fp hF5)
      have hq7 := Paired.imp (fun _ _ y => EnV.same sl (EnV.bagT z5 b6 y)) hq5
      have b7 := b5.trans (b6.trans (Same.but sl))
      generalize upd H6 l (.lst [.str "waits", .str "leaves"]) = H7 at *
      refine ⟨_, rfl, pb, cl, _, 2, rfl, z7, by omega, by decide, by decide, fun H8 r8 b8 z8 r80 r81 => ?_⟩
      obtain ⟨ac, eac⟩ := act_at r80 r81
      refine ⟨l, _, r8, _, rfl, rfl, .of (b8 _ _ lp hl), eac, (by show 2 ≤ sizeLine; decide), fun u nu => ?_⟩
      have su := same_upd (o := .tup [koV kk, .str (actS ac)]) nu
      have hu : (upd H8 u (.tup [koV kk, .str (actS ac)])) u = some (.tup [koV kk, .str (actS ac)]) := upd_same
      have z9 := z8.same su
      have hk9 := su _ _ (b8 _ _ kp hk7)
      have hF9 := su _ _ (b8 _ _ Fp hF7)
      have hq9 := Paired.imp (fun _ _ y => EnV.same su (EnV.bagT z7 b8 y)) hq7
      have b9 := b7.trans (b8.trans (Same.but su))
      generalize upd H8 u (.tup [koV kk, .str (actS ac)]) = H9 at *
      have lq := Paired.len hq9
      refine ⟨_, rfl, _, rfl, _, rfl, F, _, rfl, .inl (.of hF9), pb, cl, _, _, rfl, z9, by omega, by omega, wideB (by omega) (by omega), fun H10 r10 b10 z10 r100 r101 => ?_⟩
      have hF10 := b10 _ _ Fp hF9
      have hq10 := Paired.imp (fun _ _ y => EnV.bagT z9 b10 y) hq9
      have hu10 : EnV H10 (.ref u) (kk, ac) := EnV.bagT z9 b10 ⟨u, rfl, hu⟩
      refine ⟨F, _, r10, r10.toNat, rfl, rfl, hF10, ixE r100 (by omega), ?_⟩
      refine ⟨_, _, _, fs.set r10.toNat (kk, ac), rfl, ?_, ?_, ?_, upd_same, paired_set (EnV.grow hF10 hu10) _ (Paired.imp (fun _ _ y => EnV.grow hF10 y) hq10), ?_, by rw [List.length_set]; exact lf⟩
      · have b10' := b9.trans b10
        exact fun a o na e => by rw [upd_ne (ne_of_none e nF)]; exact b10' a o na e
      · refine (z10.keep (fun o e => by rw [upd_ne Fp.symm]; exact e) (fun o e => by rw [upd_ne lvF]; exact e)).mono (by omega)
      · rw [upd_ne Fk.symm]
        exact b10 _ _ kp hk9
      · intro e he k hk
        rcases List.mem_or_eq_of_mem_set he with y | y
        · exact ik4 e y k hk
        · rw [y] at hk
          exact ikk k hk
    · obtain ⟨y4, y5, xs4, fs, rfl, b4, z4, hk4, hF4, hp4, ik4, lf⟩ := hP
      exact ⟨_, rfl, q _ F fs b4 (z4.mono (by omega)) nF Fp ⟨_, hF4, hp4⟩ ik4 (by omega)⟩
end
end UP

set_option Elab.async false
set_option linter.all false
set_option maxRecDepth 100000
set_option maxHeartbeats 8000000
set_option pp.maxSteps 700
namespace UP
open PySem PySem.Spec PyProof.Rows L2
theorem two_at45 {a b r : Int} (r0 : 0 ≤ r) (r1 : r < 2) : ∃ g, atI [V.int a, V.int b] r = some (.int g) ∧ (g = a ∨ g = b) := by
  rcases (show r = 0 ∨ r = 1 by omega) with e | e
  · rw [e]
    exact ⟨a, rfl, .inl rfl⟩
  · rw [e]
    exact ⟨b, rfl, .inr rfl⟩
theorem ks_a : KsOk ["a"] := by
  refine ⟨by decide, by decide, fun k hk => ?_, fun i x y h1 h2 => ?_⟩
  · rw [List.mem_singleton.mp hk]
    decide +kernel
  · cases i <;> cases h2
def twoN : List En := [(some "a", true), (none, false)]
theorem two_in : InK ["a"] twoN := fun e he k hk => by
  simp only [twoN, List.mem_cons, List.not_mem_nil, or_false] at he
  rcases he with e | e
  · rw [e] at hk
    cases hk
    decide
  · rw [e] at hk
    cases hk
def thrB (o : Option Cf) (w : Str) (a l : Nat) : Bool :=
  match o with
  | some (.thr w' a' l') => decide (w' = w) && decide (a' = a) && decide (l' = l)
  | _ => false
theorem thrB_eq {o : Option Cf} {w : Str} {a l : Nat} (h : thrB o w a l = true) : o = some (.thr w a l) := by
  unfold thrB at h
  split at h
  · simp only [Bool.and_eq_true, decide_eq_true_eq] at h
    obtain ⟨⟨rfl, rfl⟩, rfl⟩ := h
    rfl
  · cases h
theorem cf_two : cfE ["a"] twoN = some (.thr "all" 0 1) := thrB_eq (by decide +kernel)
theorem cf_nil : cfE ["a"] [] = none := by decide +kernel
section
variable {P : Program} {w : World} {K : PySem.W.Frag} {mg : Str → Option Value} {base : Heap}
/-! law: slots 0:script 1:bag 2:turn 3:kinds 4:record 5:found 6:size -/
abbrev s_law : Stmt := topS 52
theorem sc_law : FnScope ["script", "bag", "turn", "kinds", "record", "found", "size"] ["script"] (defScope s_law) := ⟨rfl, rfl, rfl, by decide +kernel, rfl, by decide +kernel, by decide +kernel⟩
def sp_law (K : PySem.W.Frag) : Sp := fun vs H Q _ => ∃ (a : Addr) (ns : List Int), vs = [.ref a] ∧ SqL K H a (ns.map V.int) ∧ ns.length ≤ 63 ∧ ∀ H', Q (.bl true) H'
theorem fn_law {f : Addr} {fd : FuncData} (F : Fun K "law" "law" s_law f fd) (T : Tx mg) (G_law_bag : Has P w K mg base 1 "_law_bag" ["script"] (sp_law_bag K)) (G_law_draw : Has P w K mg base 2 "_law_draw" ["bag", "bound"] sp_law_draw)
    (G_law_kinds : Has P w K mg base 4 "_law_kinds" ["bag", "most"] sp_law_kinds) (G_law_any_record : Has P w K mg base 3 "_law_any_record" ["bag", "kinds", "count"] sp_law_any_record) (G_law_items : Has P w K mg base 3 "_law_items" ["bag", "kinds", "count"] sp_law_items)
    (G_law_hidden : Has P w K mg base 3 "_law_hidden" ["bag", "items"] sp_law_hidden) (G_conflict_of : Has P w K mg base 5 "conflict_of" ["kinds", "record"] sp_conflict_of) (G_law_first_misfit : Has P w K mg base 3 "_law_first_misfit" ["kinds", "record"] sp_law_first_misfit)
    (G_law_right : HasG P w K mg base 8 "_law_right" ["bag", "kinds", "record"] sp_law_right) (G_law_replaced : Has P w K mg base 3 "_law_replaced" ["bag", "kinds", "record"] sp_law_replaced) :
    FnC P w K mg base f fd ["script"] (sp_law K) := by
  refine fnC_of F sc_law (fun vs H Q E h => ?_) (fun cdv outer s H vs Q E hr h => ?_)
  · obtain ⟨_, _, rfl, _⟩ := h
    rfl
  · obtain ⟨a, ns, rfl, hS, l63, q⟩ := h
    have hr := Room.deeper (show Room (9 + 1) callerA from ⟨rfl, by decide, by decide⟩) (envOfC "law" (defScope s_law) s.heap.objs.size f cdv)
    refine ⟨_, (pss_cons (ps_set (i := 1) sc_law.nd rfl (by first | exact Or.inl rfl | exact Or.inr rfl) (pe_callH G_law_bag (hr.mono (by omega)) (by rfl) (pa_cons (pv 0) pa_nil)))
    (pss_cons (ps_for PassesOwn.never rfl (pi_range1 (by rfl) T.n_range (pa_cons (pe_op op_add pe_int (pe_callB (call_min2 rfl) (by rfl) T.n_min (by decide +kernel) (pa_cons pe_int (pa_cons (pe_callB call_len_seq (by rfl) T.n_len (by decide +kernel) (pa_cons (pv 0) pa_nil)) pa_nil)))) pa_nil)) (pg_name (i := 2) sc_law.nd rfl (by first | exact Or.inl rfl | exact Or.inr rfl))
      (pss_cons (ps_set (i := 3) sc_law.nd rfl (by first | exact Or.inl rfl | exact Or.inr rfl) (pe_callH G_law_kinds (hr.mono (by omega)) (by rfl) (pa_cons (pv 1) (pa_cons pe_int pa_nil))))
    (pss_cons (ps_set (i := 4) sc_law.nd rfl (by first | exact Or.inl rfl | exact Or.inr rfl) (pe_callH G_law_any_record (hr.mono (by omega)) (by rfl) (pa_cons (pv 1) (pa_cons (pv 3) (pa_cons (pe_callH G_law_draw (hr.mono (by omega)) (by rfl) (pa_cons (pv 1) (pa_cons pe_int pa_nil))) pa_nil)))))
    (pss_cons (ps_set (i := 5) sc_law.nd rfl (by first | exact Or.inl rfl | exact Or.inr rfl) (pe_callH G_conflict_of (hr.mono (by omega)) (by rfl) (pa_cons (pv 3) (pa_cons (pv 4) pa_nil))))
    (pss_cons (ps_if (pt_cmpR op_ne (pe_callH G_law_first_misfit (hr.mono (by omega)) (by rfl) (pa_cons (pv 3) (pa_cons (pv 4) pa_nil))) (pe_ifExp (pt_cmpR op_isN (pv 5) pe_non (nomark _)) pe_non (pe_ix ix_tup (pv 5) (pe_un un_neg pe_int) (fun _ _ => rfl))) (nomark _)) (pss_one (ps_ret pe_bl)) pss_nil)
    (pss_cons (ps_if (pt_not (pt_val (pe_callGH G_law_right (by rfl) (hr.mono (by omega)) (by rfl) (pa_cons (pv 1) (pa_cons (pv 3) (pa_cons (pv 4) pa_nil)))))) (pss_one (ps_ret pe_bl)) pss_nil)
    (pss_cons (ps_par (i := 3) (j := 6) (by rfl) sc_law.nd rfl rfl (by decide) rfl rfl (pa_cons (pe_callH G_law_kinds (hr.mono (by omega)) (by rfl) (pa_cons (pv 1) (pa_cons pe_int pa_nil))) (pa_cons (pe_ix ix_list (pe_lst (pa_cons pe_int (pa_cons pe_int pa_nil))) (pe_callB (call_min2 rfl) (by rfl) T.n_min (by decide +kernel) (pa_cons pe_int (pa_cons (pv 2) pa_nil))) (fun _ _ => rfl)) pa_nil)) (by rfl))
    (pss_cons (ps_if (pt_not (pt_val (pe_callGH G_law_right (by rfl) (hr.mono (by omega)) (by rfl) (pa_cons (pv 1) (pa_cons (pv 3) (pa_cons (pe_callH G_law_any_record (hr.mono (by omega)) (by rfl) (pa_cons (pv 1) (pa_cons (pv 3) (pa_cons (pe_callH G_law_draw (hr.mono (by omega)) (by rfl) (pa_cons (pv 1) (pa_cons (pv 6) pa_nil))) pa_nil)))) pa_nil)))))) (pss_one (ps_ret pe_bl)) pss_nil)
    (pss_cons (ps_set (i := 4) sc_law.nd rfl (by first | exact Or.inl rfl | exact Or.inr rfl) (pe_callH G_law_hidden (hr.mono (by omega)) (by rfl) (pa_cons (pv 1) (pa_cons (pe_callH G_law_items (hr.mono (by omega)) (by rfl) (pa_cons (pv 1) (pa_cons (pv 3) (pa_cons (pe_callH G_law_draw (hr.mono (by omega)) (by rfl) (pa_cons (pv 1) (pa_cons (pv 6) pa_nil))) pa_nil)))) pa_nil))))
    (pss_one (ps_if (pt_not (pt_val (pe_callGH G_law_right (by rfl) (hr.mono (by omega)) (by rfl) (pa_cons (pv 1) (pa_cons (pv 3) (pa_cons (pe_callH G_law_replaced (hr.mono (by omega)) (by rfl) (pa_cons (pv 1) (pa_cons (pv 3) (pa_cons (pv 4) pa_nil)))) pa_nil)))))) (pss_one (ps_ret pe_bl)) pss_nil)))))))))))
    (pss_one (ps_ret (pe_and (pe_cmpR (op_eqD hr.units) (pe_callH G_conflict_of (hr.mono (by omega)) (by rfl) (pa_cons (pe_lst (pa_cons pe_str pa_nil)) (pa_cons (pe_lst (pa_cons (pe_tup (pa_cons pe_str (pa_cons pe_str pa_nil))) (pa_cons (pe_tup (pa_cons pe_non (pa_cons pe_str pa_nil))) pa_nil))) pa_nil))) (pe_tup (pa_cons pe_str (pa_cons pe_int (pa_cons pe_int pa_nil)))) (nomark _)) (pe_one (pe_cmpR op_isN (pe_callH G_conflict_of (hr.mono (by omega)) (by rfl) (pa_cons (pe_lst (pa_cons pe_str pa_nil)) (pa_cons (pe_lst pa_nil) pa_nil))) pe_non (nomark _)))))))), ?_⟩
    refine ⟨_, rfl, a, ns, rfl, hS, l63, fun H1 pb cl s1 npb ncl zb1 => ?_⟩
    refine ⟨_, rfl, a, _, rfl, .inl (s1.seq hS), _, _, rfl, _, _, rfl, rfl, _, rfl, ?_, ?_, for_range (lo := 0) (n := _) (fun i σ H' => ∃ y2 y3 y4 y5 y6, σ = [some (.ref a), some (.ref pb), y2, y3, y4, y5, y6] ∧ Bag H' pb cl (20000 * i))
      ⟨_, _, _, _, _, rfl, zb1⟩ (fun i σ H2 hi hP => ?_) (fun σ H2 hP => ?_)⟩
    · rw [List.length_map]
      split <;> omega
    · rw [List.length_map]
      split <;> omega
    · obtain ⟨y2, y3, y4, y5, y6, rfl, z2⟩ := hP
      have hi : i ≤ 10 := by
        have hi : i < _ := hi
        rw [List.length_map] at hi
        split at hi <;> omega
      obtain ⟨N, eN⟩ : ∃ N : Nat, N = 20000 * i := ⟨_, rfl⟩
      have N1 : N ≤ 200000 := by omega
      rw [← eN] at z2
      refine ⟨_, rfl, pb, cl, N, 3, rfl, by decide, by decide, z2, by omega, fun H3 ka ks b3 z3 nka kap hk3 kso nd k3 => ?_⟩
      have l0 := kso.1
      refine ⟨_, rfl, _, rfl, _, rfl, pb, cl, N + 1001, 7, rfl, z3, by omega, by decide, by decide, fun H4 r4 b4 z4 r40 r41 => ?_⟩
      obtain ⟨m, rfl⟩ := Int.eq_ofNat_of_zero_le r40
      have hk4 := b4 _ _ kap hk3
      refine ⟨pb, cl, ka, _, m, ks, rfl, z4, by omega, hk4, kap, by omega, by omega, fun H5 ra es b5 z5 nra rap hre5 ik5 le5 => ?_⟩
      have hk5 := b5 _ _ kap hk4
      have rc := (bag_live z4 nra).2.symm
      have rk : ra ≠ ka := fun e => by rw [e, hk4] at nra; cases nra
      refine ⟨_, rfl, _, rfl, ka, .ref ra, ks, es, rfl, .inl hk5, kso, hre5.dress, ik5, by omega, fun H6 fv s6 hf => ?_⟩
      have hk6 := s6 _ _ hk5
      have hre6 := hre5.same s6
      dsimp only
      refine if_gen (fun σ' H' => σ' = [some (.ref a), some (.ref pb), some (.int (0 + (i : Int))), some (.ref ka), some (.ref ra), some fv, y6] ∧ Same H6 H') (fun R hR => ?_) (fun σ' H7 hO => ?_)
      · refine ⟨_, rfl, _, rfl, ka, ra, ks, es, rfl, hk6, kso, by omega, hre6, by omega, ik5, fun H7 s7 => ?_⟩
        have hf7 := hf.same s7
        cases hc : cfE ks es with
        | none =>
          rw [hc] at hf7
          cases (show fv = .non from hf7)
          refine ⟨_, rfl, rfl, _, rfl, iteP rfl ?_⟩
          exact ⟨rfl, _, rfl, iteN rfl (hR _ _ ⟨rfl, s7⟩)⟩
        | some c =>
          rw [hc] at hf7
          obtain ⟨t, rfl, ht⟩ : CfV H7 fv c := hf7
          refine ⟨_, rfl, rfl, _, rfl, iteN rfl ?_⟩
          refine ⟨_, rfl, _, rfl, t, _, _, _, rfl, rfl, .of ht, cf_lastV, ?_⟩
          refine ⟨rfl, _, rfl, iteN ?_ (hR _ _ ⟨rfl, s7⟩)⟩
          rw [show noV (Option.map lsC (some c)) = V.int (lsC c : Nat) from rfl, decide_eq_true rfl]
          rfl
      obtain ⟨rfl, s7⟩ := hO
      have hk7 := s7 _ _ hk6
      have hre7 := hre6.same s7
      have z7 := z5.same (s6.trans s7)
      refine ⟨_, rfl, _, rfl, _, rfl, pb, cl, ka, ra, _, ks, es, rfl, z7, by omega, hk7, kap, kso, hre7, rap, rc, rk, by omega, ik5, fun H8 z8 hk8 => ⟨true, rfl, iteF ?_⟩⟩
      unfold tNext
      dsimp only
      refine ⟨_, rfl, pb, cl, _, 12, rfl, by decide, by decide, z8, by omega, fun H9 kb ks2 b9 z9 nkb kbp hk9 kso2 nd2 _ => ⟨(by show 2 ≤ sizeLine; decide), fun l nl => ?_⟩⟩
      have sl := same_upd (o := .lst [.int 401, .int 60]) nl
      have hl := upd_same (H := H9) (a := l) (o := .lst [.int 401, .int 60])
      have z10 := z9.same sl
      have hk10 := sl _ _ hk9
      generalize upd H9 l (.lst [.int 401, .int 60]) = H10 at *
      refine ⟨_, rfl, _, _, rfl, ?_⟩
      have hm : 0 ≤ (if (0 + (i : Int)) < 1 then (0 + (i : Int)) else 1) ∧ (if (0 + (i : Int)) < 1 then (0 + (i : Int)) else 1) < 2 := by
        split <;> omega
      obtain ⟨g, hg, eg⟩ := two_at45 (a := 401) (b := 60) hm.1 hm.2
      have g0 : 1 ≤ g ∧ g ≤ 401 := by omega
      refine ⟨l, _, _, _, rfl, rfl, .of hl, hg, ?_⟩
      refine ⟨_, _, rfl, ?_⟩
      dsimp only
      clear hl hg
      have l02 := kso2.1
      have l12 := kso2.2.1
      -- the second record
      refine ⟨_, rfl, _, rfl, _, rfl, _, rfl, _, rfl, _, rfl, pb, cl, _, g, rfl, z10, by omega, g0.1, wideB (by omega) (by omega), fun H11 r11 b11 z11 r110 r111 => ?_⟩
      obtain ⟨m2, rfl⟩ := Int.eq_ofNat_of_zero_le r110
      have hk11 := b11 _ _ kbp hk10
      refine ⟨pb, cl, kb, _, m2, ks2, rfl, z11, by omega, hk11, kbp, by omega, by omega, fun H12 rb fs b12 z12 nrb rbp hre12 ik12 le12 => ?_⟩
      have hk12 := b12 _ _ kbp hk11
      have rc2 := (bag_live z11 nrb).2.symm
      have rk2 : rb ≠ kb := fun e => by rw [e, hk11] at nrb; cases nrb
      refine ⟨pb, cl, kb, rb, _, ks2, fs, rfl, z12, by omega, hk12, kbp, kso2, hre12, rbp, rc2, rk2, by omega, ik12, fun H13 z13 hk13 => ⟨true, rfl, iteF ?_⟩⟩
      dsimp only
      -- the third
      refine ⟨_, rfl, _, rfl, _, rfl, _, rfl, _, rfl, pb, cl, _, g, rfl, z13, by omega, g0.1, wideB (by omega) (by omega), fun H14 r14 b14 z14 r140 r141 => ?_⟩
      have hk14 := b14 _ _ kbp hk13
      refine ⟨pb, cl, kb, _, ks2, r14, rfl, z14, by omega, hk14, kbp, l02, by omega, kso2.2.2.1, r140, by omega, fun H15 ia its b15 z15 nia iap hi15 hin l4 _ => ?_⟩
      have hk15 := b15 _ _ kbp hk14
      refine ⟨pb, cl, ia, _, its, rfl, z15, by omega, hi15, iap, l4, fun H16 rd es3 b16 z16 nrd rdp hre16 le16 => ?_⟩
      have hk16 := b16 _ _ kbp hk15
      have fit := fit_less le16 (recI_fit its "" 0)
      have les : es3.length ≤ 400 := by have := fit.len; omega
      have ik16 := inK_of fit hin
      dsimp only
      refine ⟨_, rfl, _, rfl, _, rfl, _, rfl, _, rfl, pb, cl, kb, rd, _, ks2, es3, rfl, z16, by omega, hk16, kbp, kso2, hre16, rdp, les, ik16, fun H17 re gs b17 z17 nre rep hre17 ik17 l17 => ?_⟩
      have hk17 := b17 _ _ kbp hk16
      have rc3 := (bag_live z16 nre).2.symm
      have rk3 : re ≠ kb := fun e => by rw [e, hk16] at nre; cases nre
      refine ⟨pb, cl, kb, re, _, ks2, gs, rfl, z17, by omega, hk17, kbp, kso2, hre17, rep, rc3, rk3, l17, ik17, fun H18 z18 hk18 => ⟨true, rfl, iteF ?_⟩⟩
      exact ⟨_, _, _, _, _, rfl, z18.mono (by omega)⟩
    · obtain ⟨y2, y3, y4, y5, y6, rfl, zb⟩ := hP
      refine ⟨(by show 1 ≤ sizeLine; decide), fun l1 n1 => ⟨(by show 2 ≤ sizeLine; decide), fun t1 m1 => ⟨(by show 2 ≤ sizeLine; decide), fun t2 m2 => ⟨(by show 2 ≤ sizeLine; decide), fun l2 n2 => ?_⟩⟩⟩⟩
      have a1 : (upd (upd (upd (upd H2 l1 (.lst [.str "a"])) t1 (.tup [.str "a", .str "waits"])) t2 (.tup [.non, .str "leaves"])) l2 (.lst [.ref t1, .ref t2])) l1 = some (.lst ((["a"] : List Str).map V.str)) := same_upd n2 _ _ (same_upd m2 _ _ (same_upd m1 _ _ upd_same))
      have r1 : Rec (upd (upd (upd (upd H2 l1 (.lst [.str "a"])) t1 (.tup [.str "a", .str "waits"])) t2 (.tup [.non, .str "leaves"])) l2 (.lst [.ref t1, .ref t2])) l2 twoN := ⟨_, upd_same, .cons ⟨t1, rfl, same_upd n2 _ _ (same_upd m2 _ _ upd_same)⟩ (.cons ⟨t2, rfl, same_upd n2 _ _ upd_same⟩ .nil)⟩
      refine ⟨l1, .ref l2, ["a"], twoN, rfl, .inl a1, ks_a, r1.dress, two_in, by decide, fun H3 v3 s3 h3 => ?_⟩
      rw [cf_two] at h3
      obtain ⟨u3, rfl, hu3⟩ := h3
      refine ⟨(by show 3 ≤ sizeLine; decide), fun t5 n5 => ?_⟩
      have s5 := same_upd (o := .tup [.str "all", .int 0, .int 1]) n5
      refine ⟨dCfN (.thr "all" 0 1), .tuple [.str "all", .int 0, .int 1], dp_cf hu3 _ s5, .tup (.of upd_same) (.cons (.str _) (.cons (.int _) (.cons (.int _) .nil))), by decide +kernel, by decide +kernel, _, rfl, iteP (by decide +kernel) ?_⟩
      generalize upd H3 t5 (.tup [.str "all", .int 0, .int 1]) = H4
      refine ⟨(by show 1 ≤ sizeLine; decide), fun l6 n6 => ⟨Nat.zero_le _, fun l7 n7 => ?_⟩⟩
      refine ⟨l6, .ref l7, ["a"], [], rfl, .inl (same_upd n7 _ _ upd_same), ks_a, Rec.dress ⟨_, upd_same, .nil⟩, (fun e he => by cases he), by decide, fun H8 v8 s8 h8 => ?_⟩
      rw [cf_nil] at h8
      rw [show v8 = .non from h8]
      refine ⟨rfl, ?_⟩
      rw [decide_eq_true rfl]
      exact q _
end
end UP

set_option Elab.async false
set_option linter.all false
set_option maxRecDepth 100000
set_option maxHeartbeats 4000000
namespace UP
open PySem PySem.Spec PyProof.Rows L2
section
variable {K : PySem.W.Frag} {h : Heap} {mg : Str → Option Value}
theorem df_mk {x : Str} {st : Stmt} {f : Addr} {od an : Option Addr} {sl : Array (Option Value)} {oc kV dc pm cd ct : Value} (X : K.In h) (G : h.Ns mainGlobals mg) (a : PySem.W.nsIn K mainGlobals x = some (some (.ref f)))
    (l : K.lookup f = some ⟨oc, od, .func (PySem.W.fnOf x x (defArgs st) (defBody st) (defScope st) .none kV dc pm an cd ct), sl⟩) (c : PySem.W.codeIn K cd x = true) (k : PySem.W.keepIn K (.ref f) = true) : Df K mg x st :=
  ⟨f, _, PySem.W.mg_of X G a, fun_mk l c k⟩
theorem dfd_mk {x : Str} {st : Stmt} {f T : Addr} {od an od2 : Option Addr} {sl sl2 : Array (Option Value)} {n2 : Nat} {oc kV dc pm cd ct oc2 : Value} (X : K.In h) (G : h.Ns mainGlobals mg) (a : PySem.W.nsIn K mainGlobals x = some (some (.ref f)))
    (l : K.lookup f = some ⟨oc, od, .func (PySem.W.fnOf x x (defArgs st) (defBody st) (defScope st) (.ref T) kV dc pm an cd ct), sl⟩) (t : K.lookup T = some ⟨oc2, od2, .seq #[.none] n2, sl2⟩) (c : PySem.W.codeIn K cd x = true) (k : PySem.W.keepIn K (.ref f) = true) : DfD K mg x st [.non] :=
  ⟨f, _, PySem.W.mg_of X G a, ⟨⟨oc, od, _, kV, dc, pm, an, cd, ct, sl, rfl, l, c, .inr ⟨(by intro z; cases z), T, _, [.none], n2, rfl, t, rfl, .cons rfl .nil⟩, .inl rfl⟩, k⟩⟩
theorem cst_mk {x : Str} {i : Int} {t : Tok} (X : K.In h) (G : h.Ns mainGlobals mg) (a : PySem.W.nsIn K mainGlobals x = some (some (.int i t))) : ∃ t, mg x = some (.int i t) := ⟨t, PySem.W.mg_of X G a⟩
theorem own_Contradiction_mk {C fI N : Addr} {nm q : Str} {bs bm sub : List Value} {sn : List Str} {ab : Bool} {col : Option Bool} {dd : Option Addr} {k0 k1 k2 k3 k5 : Option Value} {od an : Option Addr} {sl : Array (Option Value)} {oc kV dc pm cd ct : Value} (X : K.In h) (G : h.Ns mainGlobals mg) (a : PySem.W.nsIn K mainGlobals "Contradiction" = some (some (.ref C)))
    (l : K.lookup C = some (excClassObj nm q C N bs bm true sn sub ab col dd k0 k1 k2 k3 k5 "ValueError.__new__")) (r : PySem.HandSPX.refsVE bm = true) (sa : PySem.W.findIn K (.ref C) "__setattr__" = some (some (.builtin "object.__setattr__"))) (xc : PySem.W.subIn K (.ref C) (.type "BaseException") = some true) (ty : PySem.W.typeIn K (.ref C) = some (.type "type")) (kc : PySem.W.keepIn K (.ref C) = true)
    (ga : PySem.W.findIn K (.ref C) "__getattribute__" = some (some (.builtin "BaseException.__getattribute__"))) (gg : PySem.W.findIn K (.ref C) "__getattr__" = some none) (hd : PySem.W.hasDictIn K C = true) (em : PySem.W.exmOne K (.ref C) (.ref C) = some true) (n : PySem.W.findIn K (.ref C) "conflict" = some none) (ic : PySem.W.findIn K (.ref C) "__init__" = some (some (.ref fI))) (ti : PySem.W.typeIn K (.ref fI) = some (.type "function")) (fl : K.lookup fI = some ⟨oc, od, .func (PySem.W.fnOf "__init__" "Contradiction.__init__" (defArgs s_conflict) (defBody s_conflict) (defScope s_conflict) .none kV dc pm an cd ct), sl⟩) (fc : PySem.W.codeIn K cd "Contradiction.__init__" = true) (fk : PySem.W.keepIn K (.ref fI) = true) : ∃ C, ConF K mg C :=
  ⟨C, PySem.W.mg_of X G a, ⟨⟨nm, q, N, bs, bm, sn, sub, ab, col, dd, k0, k1, k2, k3, k5, l, r⟩, sa, xc, ty, kc⟩, n, ⟨ga, gg, xc, hd⟩, em, fI, _, ic, ti, fun_mk fl fc fk⟩
theorem cst_mkS {x : Str} {i : Str} {t : Tok} (X : K.In h) (G : h.Ns mainGlobals mg) (a : PySem.W.nsIn K mainGlobals x = some (some (.str i t))) : ∃ t, mg x = some (.str i t) := ⟨t, PySem.W.mg_of X G a⟩
theorem ex_mk {x : Str} {D : Addr} (X : K.In h) (G : h.Ns mainGlobals mg) (a : PySem.W.nsIn K mainGlobals x = some (some (.ref D))) (c : PySem.W.excIn K D [.type "ValueError", .type "Exception", .type "BaseException", .type "object"] "ValueError.__new__" = true) (k : PySem.W.keepIn K (.ref D) = true) (bs : PySem.W.subIn K (.ref D) (.type "BaseException") = some true) (t : PySem.W.typeIn K (.ref D) = some (.type "type")) (m : PySem.W.exmOne K (.ref D) (.ref D) = some true) : ∃ C, Ex K mg x C := ⟨D, PySem.W.mg_of X G a, c, k, bs, t, m⟩
end
/-- all that the top has written -/
structure Top (K : PySem.W.Frag) (mg : Str → Option Value) : Prop where
  T : Tx mg
  d_copied : Df K mg "copied" s_copied
  d_is_listed : Df K mg "is_listed" s_is_listed
  d_is_couple : Df K mg "is_couple" s_is_couple
  d_is_kind : Df K mg "is_kind" s_is_kind
  d_is_kinds : Df K mg "is_kinds" s_is_kinds
  d_check_kinds : Df K mg "check_kinds" s_check_kinds
  d_product_of : Df K mg "product_of" s_product_of
  d_is_entry : Df K mg "is_entry" s_is_entry
  d_is_record : Df K mg "is_record" s_is_record
  d_checked_entries : Df K mg "checked_entries" s_checked_entries
  d_known_kinds : Df K mg "known_kinds" s_known_kinds
  d_epochs_of : Df K mg "epochs_of" s_epochs_of
  d_waiting_options : Df K mg "waiting_options" s_waiting_options
  d_later_options : Df K mg "later_options" s_later_options
  d_option_numbers : Df K mg "option_numbers" s_option_numbers
  d_conflicts_between : Df K mg "conflicts_between" s_conflicts_between
  d_is_exhausted : Df K mg "is_exhausted" s_is_exhausted
  d_conflicts_at : Df K mg "conflicts_at" s_conflicts_at
  d_conflict_in : Df K mg "conflict_in" s_conflict_in
  d_certain_kind : Df K mg "certain_kind" s_certain_kind
  d_conflict_of : Df K mg "conflict_of" s_conflict_of
  d_fitting_count : Df K mg "fitting_count" s_fitting_count
  d_certain_kinds : Df K mg "certain_kinds" s_certain_kinds
  d_law_bag : Df K mg "_law_bag" s_law_bag
  d_law_stir : Df K mg "_law_stir" s_law_stir
  d_law_draw : Df K mg "_law_draw" s_law_draw
  d_law_shuffled : Df K mg "_law_shuffled" s_law_shuffled
  d_law_either : Df K mg "_law_either" s_law_either
  d_law_kinds : Df K mg "_law_kinds" s_law_kinds
  d_law_actions : Df K mg "_law_actions" s_law_actions
  d_law_items : Df K mg "_law_items" s_law_items
  d_law_hidden : Df K mg "_law_hidden" s_law_hidden
  d_law_any_record : Df K mg "_law_any_record" s_law_any_record
  d_law_conflict : Df K mg "_law_conflict" s_law_conflict
  d_law_all_lists : Df K mg "_law_all_lists" s_law_all_lists
  d_law_fitting : Df K mg "_law_fitting" s_law_fitting
  d_law_dressed : Df K mg "_law_dressed" s_law_dressed
  d_law_first_misfit : Df K mg "_law_first_misfit" s_law_first_misfit
  d_law_contradicts : Df K mg "_law_contradicts" s_law_contradicts
  d_law_right : Df K mg "_law_right" s_law_right
  d_law_replaced : Df K mg "_law_replaced" s_law_replaced
  i_Contradiction : ∃ C, ConF K mg C
theorem Top.law {P : Program} {w : World} {K : PySem.W.Frag} {mg : Str → Option Value} (Y : Top K mg) {f : Addr} {fd : FuncData} (F : Fun K "law" "law" s_law f fd) (base : Heap) : FnC P w K mg base f fd ["script"] (sp_law K) := by
  have T := Y.T
  obtain ⟨CI, I1⟩ := Y.i_Contradiction
  have g_is_listed := ok_is_listed (P := P) (w := w) (base := base) Y.d_is_listed T
  have g_is_couple := ok_is_couple (P := P) (w := w) (base := base) Y.d_is_couple T
  have g_is_kind := ok_is_kind (P := P) (w := w) (base := base) Y.d_is_kind T
  have g_law_bag := ok_law_bag (P := P) (w := w) (base := base) Y.d_law_bag T
  have g_law_stir := ok_law_stir (P := P) (w := w) (base := base) Y.d_law_stir T
  have g_law_draw := ok_law_draw (P := P) (w := w) (base := base) Y.d_law_draw T g_law_stir
  have g_is_entry := ok_is_entry (P := P) (w := w) (base := base) Y.d_is_entry T g_is_couple g_is_kind
  have g_is_record := ok_is_record (P := P) (w := w) (base := base) Y.d_is_record T g_is_listed g_is_entry
  have g_is_kinds := ok_is_kinds (P := P) (w := w) (base := base) Y.d_is_kinds T g_is_listed g_is_kind
  have g_check_kinds := ok_check_kinds (P := P) (w := w) (base := base) Y.d_check_kinds g_is_kinds
  have g_checked_entries := ok_checked_entries (P := P) (w := w) (base := base) Y.d_checked_entries T g_check_kinds g_is_record
  have g_known_kinds := ok_known_kinds (P := P) (w := w) (base := base) Y.d_known_kinds
  have g_epochs_of := ok_epochs_of (P := P) (w := w) (base := base) Y.d_epochs_of T
  have g_waiting_options := ok_waiting_options (P := P) (w := w) (base := base) Y.d_waiting_options T g_known_kinds
  have g_later_options := ok_later_options (P := P) (w := w) (base := base) Y.d_later_options
  have g_product_of := ok_product_of (P := P) (w := w) (base := base) Y.d_product_of
  have g_option_numbers := ok_option_numbers (P := P) (w := w) (base := base) Y.d_option_numbers T g_epochs_of g_waiting_options g_later_options
  have g_fitting_count := ok_fitting_count (P := P) (w := w) (base := base) Y.d_fitting_count g_checked_entries g_option_numbers g_product_of
  have g_conflicts_between := ok_conflicts_between (P := P) (w := w) (base := base) Y.d_conflicts_between T
  have g_is_exhausted := ok_is_exhausted (P := P) (w := w) (base := base) Y.d_is_exhausted T g_known_kinds
  have g_conflicts_at := ok_conflicts_at (P := P) (w := w) (base := base) Y.d_conflicts_at T g_is_exhausted g_conflicts_between
  have g_conflict_in := ok_conflict_in (P := P) (w := w) (base := base) Y.d_conflict_in T g_epochs_of g_conflicts_at
  have g_conflict_of := ok_conflict_of (P := P) (w := w) (base := base) Y.d_conflict_of g_checked_entries g_conflict_in
  have g_certain_kind := ok_certain_kind (P := P) (w := w) (base := base) Y.d_certain_kind T g_later_options
  have g_certain_kinds := ok_certain_kinds (P := P) (w := w) (base := base) Y.d_certain_kinds T g_checked_entries g_conflict_in g_epochs_of g_waiting_options g_certain_kind
  have g_law_shuffled := ok_law_shuffled (P := P) (w := w) (base := base) Y.d_law_shuffled T g_law_draw
  have g_law_either := ok_law_either (P := P) (w := w) (base := base) Y.d_law_either T g_law_draw
  have g_law_kinds := ok_law_kinds (P := P) (w := w) (base := base) Y.d_law_kinds T g_law_draw g_law_shuffled
  have g_law_actions := ok_law_actions (P := P) (w := w) (base := base) Y.d_law_actions
  have g_law_items := ok_law_items (P := P) (w := w) (base := base) Y.d_law_items T g_law_draw
  have g_law_hidden := ok_law_hidden (P := P) (w := w) (base := base) Y.d_law_hidden T g_law_draw g_law_actions
  have g_law_any_record := ok_law_any_record (P := P) (w := w) (base := base) Y.d_law_any_record T g_law_draw
  have g_law_all_lists := ok_law_all_lists (P := P) (w := w) (base := base) Y.d_law_all_lists T
  have g_law_fitting := ok_law_fitting (P := P) (w := w) (base := base) Y.d_law_fitting T g_law_all_lists g_law_actions
  have g_law_dressed := ok_law_dressed (P := P) (w := w) (base := base) Y.d_law_dressed g_law_either
  have g_copied := ok_copied (P := P) (w := w) (base := base) Y.d_copied T
  have gX_certain_kinds := okX_certain_kinds (P := P) (w := w) (base := base) Y.d_certain_kinds T I1 g_copied g_checked_entries g_conflict_in g_epochs_of g_waiting_options g_certain_kind
  have gH_is_listed := okH_is_listed (P := P) (w := w) (base := base) Y.d_is_listed T
  have gH_is_couple := okH_is_couple (P := P) (w := w) (base := base) Y.d_is_couple T
  have gH_is_kind := okH_is_kind (P := P) (w := w) (base := base) Y.d_is_kind T
  have gH_is_entry := okH_is_entry (P := P) (w := w) (base := base) Y.d_is_entry T gH_is_couple gH_is_kind
  have gH_is_record := okH_is_record (P := P) (w := w) (base := base) Y.d_is_record T gH_is_listed gH_is_entry
  have gH_is_kinds := okH_is_kinds (P := P) (w := w) (base := base) Y.d_is_kinds T gH_is_listed gH_is_kind
  have gH_check_kinds := okH_check_kinds (P := P) (w := w) (base := base) Y.d_check_kinds gH_is_kinds
  have gH_checked_entries := okH_checked_entries (P := P) (w := w) (base := base) Y.d_checked_entries T gH_check_kinds gH_is_record
  have gH_known_kinds := okH_known_kinds (P := P) (w := w) (base := base) Y.d_known_kinds
  have gH_epochs_of := okH_epochs_of (P := P) (w := w) (base := base) Y.d_epochs_of T
  have gH_waiting_options := okH_waiting_options (P := P) (w := w) (base := base) Y.d_waiting_options T gH_known_kinds
  have gH_later_options := okH_later_options (P := P) (w := w) (base := base) Y.d_later_options
  have gH_product_of := okH_product_of (P := P) (w := w) (base := base) Y.d_product_of
  have gH_option_numbers := okH_option_numbers (P := P) (w := w) (base := base) Y.d_option_numbers T gH_epochs_of gH_waiting_options gH_later_options
  have gH_fitting_count := okH_fitting_count (P := P) (w := w) (base := base) Y.d_fitting_count gH_checked_entries gH_option_numbers gH_product_of
  have g_law_conflict := ok_law_conflict (P := P) (w := w) (base := base) Y.d_law_conflict T
  have g_law_contradicts := ok_law_contradicts (P := P) (w := w) (base := base) Y.d_law_contradicts T I1 gX_certain_kinds gH_fitting_count
  have g_law_first_misfit := ok_law_first_misfit (P := P) (w := w) (base := base) Y.d_law_first_misfit T g_law_fitting
  have g_law_right := ok_law_right (P := P) (w := w) (base := base) Y.d_law_right T g_law_conflict g_law_either g_law_dressed g_conflict_of g_law_contradicts
  have g_law_replaced := ok_law_replaced (P := P) (w := w) (base := base) Y.d_law_replaced T g_law_draw
  exact fn_law F T g_law_bag g_law_draw g_law_kinds g_law_any_record g_law_items g_law_hidden g_conflict_of g_law_first_misfit g_law_right g_law_replaced
theorem all_mk {P : Program} {w : World} {K : PySem.W.Frag} {h : Heap} {mg : Str → Option Value} {fa f : Addr} {od an : Option Addr} {sl : Array (Option Value)} {oc kV dc pm cd ct : Value} (X : K.In h) (G : h.Ns mainGlobals mg) (hfa : mg "law" = some (.ref fa)) (a : PySem.W.nsIn K mainGlobals "law" = some (some (.ref f)))
    (l : K.lookup f = some ⟨oc, od, .func (PySem.W.fnOf "law" "law" (defArgs s_law) (defBody s_law) (defScope s_law) .none kV dc pm an cd ct), sl⟩) (c : PySem.W.codeIn K cd "law" = true) (k : PySem.W.keepIn K (.ref f) = true) (Y : Top K mg) :
    ∃ fd : FuncData, (∀ (s : Shared) (v : Value), BindsTo s fd ⟨[v], []⟩ [("script", v)]) ∧ ∀ base : Heap, K.In base → base.Ns mainGlobals mg → FnC P w K mg base fa fd ["script"] (sp_law K) := by
  have e := hfa.symm.trans (PySem.W.mg_of X G a)
  cases e
  exact ⟨_, fun s v => .of_eq rfl, fun base _ _ => Y.law (fun_mk (st := s_law) l c k) base⟩
end UP
open PySem PySem.W PyProof.Rows
set_option maxHeartbeats 0 in
theorem PySem.Challenge.cw_unlikepairs_k42_conflicts_of_records_holds : PySem.Challenge.rw_unlikepairs_k42_conflicts_of_records.Holds := by
  w_on; o_law; k_head; (case hw => w_witness2)
  k_fill
  refine UP.walkC (l := PySem.Challenge.rw_unlikepairs_k42_conflicts_of_records) (n := 63) (x := "script") (sp := fun w => UP.sp_law _) rfl (by decide) rfl (fun w h Y => PySem.W.kIn_of Y) ?F (fun _ _ a ns hl hS => ⟨a, ns, rfl, hS, hl, fun _ => rfl⟩)
  case F =>
    intro w mg fa h KX G hmg
    refine' UP.all_mk KX G hmg ?a ?l ?c ?k ?Y
    (case a => k_is); (case l => k_is); (case c => k_is); (case k => k_is)
    case Y =>
      constructor
      · constructor
        · refine' PySem.W.mg_none_of KX G ?z; (case z => k_is)
        · refine' PySem.W.mg_none_of KX G ?z; (case z => k_is)
        · refine' PySem.W.mg_none_of KX G ?z; (case z => k_is)
        · refine' PySem.W.mg_none_of KX G ?z; (case z => k_is)
        · refine' PySem.W.mg_none_of KX G ?z; (case z => k_is)
        · refine' PySem.W.mg_none_of KX G ?z; (case z => k_is)
        · refine' PySem.W.mg_none_of KX G ?z; (case z => k_is)
        · refine' PySem.W.mg_none_of KX G ?z; (case z => k_is)
        · refine' PySem.W.mg_none_of KX G ?z; (case z => k_is)
        · refine' PySem.W.mg_none_of KX G ?z; (case z => k_is)
        · refine' PySem.W.mg_none_of KX G ?z; (case z => k_is)
        · refine' PySem.W.mg_none_of KX G ?z; (case z => k_is)
        · refine' PySem.W.mg_none_of KX G ?z; (case z => k_is)
        · refine' PySem.W.mg_none_of KX G ?z; (case z => k_is)
        · refine' PySem.W.mg_none_of KX G ?z; (case z => k_is)
        · refine' PySem.W.mg_none_of KX G ?z; (case z => k_is)
        · refine' PySem.W.mg_none_of KX G ?z; (case z => k_is)
        · refine' PySem.W.mg_none_of KX G ?z; (case z => k_is)
        · refine' PySem.W.mg_none_of KX G ?z; (case z => k_is)
        · refine' PySem.W.mg_none_of KX G ?z; (case z => k_is)
        · refine' PySem.W.mg_none_of KX G ?z; (case z => k_is)
        · refine' UP.cst_mk KX G ?z; (case z => k_is)
        · refine' UP.cst_mk KX G ?z; (case z => k_is)
        · refine' UP.cst_mk KX G ?z; (case z => k_is)
      · refine' UP.df_mk KX G ?a ?l ?c ?k; (case a => k_is); (case l => k_is); (case c => k_is); (case k => k_is)
      · refine' UP.df_mk KX G ?a ?l ?c ?k; (case a => k_is); (case l => k_is); (case c => k_is); (case k => k_is)
      · refine' UP.df_mk KX G ?a ?l ?c ?k; (case a => k_is); (case l => k_is); (case c => k_is); (case k => k_is)
      · refine' UP.df_mk KX G ?a ?l ?c ?k; (case a => k_is); (case l => k_is); (case c => k_is); (case k => k_is)
      · refine' UP.df_mk KX G ?a ?l ?c ?k; (case a => k_is); (case l => k_is); (case c => k_is); (case k => k_is)
      · refine' UP.df_mk KX G ?a ?l ?c ?k; (case a => k_is); (case l => k_is); (case c => k_is); (case k => k_is)
      · refine' UP.df_mk KX G ?a ?l ?c ?k; (case a => k_is); (case l => k_is); (case c => k_is); (case k => k_is)
      · refine' UP.df_mk KX G ?a ?l ?c ?k; (case a => k_is); (case l => k_is); (case c => k_is); (case k => k_is)
      · refine' UP.df_mk KX G ?a ?l ?c ?k; (case a => k_is); (case l => k_is); (case c => k_is); (case k => k_is)
      · refine' UP.df_mk KX G ?a ?l ?c ?k; (case a => k_is); (case l => k_is); (case c => k_is); (case k => k_is)
      · refine' UP.df_mk KX G ?a ?l ?c ?k; (case a => k_is); (case l => k_is); (case c => k_is); (case k => k_is)
      · refine' UP.df_mk KX G ?a ?l ?c ?k; (case a => k_is); (case l => k_is); (case c => k_is); (case k => k_is)
      · refine' UP.df_mk KX G ?a ?l ?c ?k; (case a => k_is); (case l => k_is); (case c => k_is); (case k => k_is)
      · refine' UP.df_mk KX G ?a ?l ?c ?k; (case a => k_is); (case l => k_is); (case c => k_is); (case k => k_is)
      · refine' UP.df_mk KX G ?a ?l ?c ?k; (case a => k_is); (case l => k_is); (case c => k_is); (case k => k_is)
      · refine' UP.df_mk KX G ?a ?l ?c ?k; (case a => k_is); (case l => k_is); (case c => k_is); (case k => k_is)
      · refine' UP.df_mk KX G ?a ?l ?c ?k; (case a => k_is); (case l => k_is); (case c => k_is); (case k => k_is)
      · refine' UP.df_mk KX G ?a ?l ?c ?k; (case a => k_is); (case l => k_is); (case c => k_is); (case k => k_is)
      · refine' UP.df_mk KX G ?a ?l ?c ?k; (case a => k_is); (case l => k_is); (case c => k_is); (case k => k_is)
      · refine' UP.df_mk KX G ?a ?l ?c ?k; (case a => k_is); (case l => k_is); (case c => k_is); (case k => k_is)
      · refine' UP.df_mk KX G ?a ?l ?c ?k; (case a => k_is); (case l => k_is); (case c => k_is); (case k => k_is)
      · refine' UP.df_mk KX G ?a ?l ?c ?k; (case a => k_is); (case l => k_is); (case c => k_is); (case k => k_is)
      · refine' UP.df_mk KX G ?a ?l ?c ?k; (case a => k_is); (case l => k_is); (case c => k_is); (case k => k_is)
      · refine' UP.df_mk KX G ?a ?l ?c ?k; (case a => k_is); (case l => k_is); (case c => k_is); (case k => k_is)
      · refine' UP.df_mk KX G ?a ?l ?c ?k; (case a => k_is); (case l => k_is); (case c => k_is); (case k => k_is)
      · refine' UP.df_mk KX G ?a ?l ?c ?k; (case a => k_is); (case l => k_is); (case c => k_is); (case k => k_is)
      · refine' UP.df_mk KX G ?a ?l ?c ?k; (case a => k_is); (case l => k_is); (case c => k_is); (case k => k_is)
      · refine' UP.df_mk KX G ?a ?l ?c ?k; (case a => k_is); (case l => k_is); (case c => k_is); (case k => k_is)
      · refine' UP.df_mk KX G ?a ?l ?c ?k; (case a => k_is); (case l => k_is); (case c => k_is); (case k => k_is)
      · refine' UP.df_mk KX G ?a ?l ?c ?k; (case a => k_is); (case l => k_is); (case c => k_is); (case k => k_is)
      · refine' UP.df_mk KX G ?a ?l ?c ?k; (case a => k_is); (case l => k_is); (case c => k_is); (case k => k_is)
      · refine' UP.df_mk KX G ?a ?l ?c ?k; (case a => k_is); (case l => k_is); (case c => k_is); (case k => k_is)
      · refine' UP.df_mk KX G ?a ?l ?c ?k; (case a => k_is); (case l => k_is); (case c => k_is); (case k => k_is)
      · refine' UP.df_mk KX G ?a ?l ?c ?k; (case a => k_is); (case l => k_is); (case c => k_is); (case k => k_is)
      · refine' UP.df_mk KX G ?a ?l ?c ?k; (case a => k_is); (case l => k_is); (case c => k_is); (case k => k_is)
      · refine' UP.df_mk KX G ?a ?l ?c ?k; (case a => k_is); (case l => k_is); (case c => k_is); (case k => k_is)
      · refine' UP.df_mk KX G ?a ?l ?c ?k; (case a => k_is); (case l => k_is); (case c => k_is); (case k => k_is)
      · refine' UP.df_mk KX G ?a ?l ?c ?k; (case a => k_is); (case l => k_is); (case c => k_is); (case k => k_is)
      · refine' UP.df_mk KX G ?a ?l ?c ?k; (case a => k_is); (case l => k_is); (case c => k_is); (case k => k_is)
      · refine' UP.df_mk KX G ?a ?l ?c ?k; (case a => k_is); (case l => k_is); (case c => k_is); (case k => k_is)
      · refine' UP.df_mk KX G ?a ?l ?c ?k; (case a => k_is); (case l => k_is); (case c => k_is); (case k => k_is)
      · refine' UP.own_Contradiction_mk KX G ?a ?l ?r ?sa ?xc ?ty ?kc ?ga ?gg ?hd ?em ?n ?ic ?ti ?fl ?fc ?fk; (case a => k_is); (case l => k_is); (case r => decide); (case em => kts_exm); (case sa => k_is); (case xc => k_is); (case ty => k_is); (case kc => k_is); (case ga => k_is); (case gg => k_is); (case hd => k_is); (case n => k_is); (case ic => k_is); (case ti => k_is); (case fl => k_is); (case fc => k_is); (case fk => k_is)
