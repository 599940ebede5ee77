package farm

import (
	"math"
	"reflect"
	"slices"
	"strings"
	"testing"

	"brazier/api"
	"brazier/code"
	"brazier/layout"
	"brazier/vm"
)

func program(t *testing.T, s string) api.Program {
	t.Helper()
	l := strings.Split(s, "/")
	p := api.Program{Classes: [][]api.Field{{{Type: api.TInt}}}}
	for k, m := range l {
		b, n, e := code.Parse(strings.ReplaceAll(m, ";", "\n"))
		if e != api.OK {
			t.Fatalf("%q: line %d", m, n)
		}
		x := api.Method{Locals: []int{api.TInt, api.TRef}, Stack: 9, Code: b}
		if k == 1 {
			x.Params = []int{api.TRef}
		}
		p.Methods = append(p.Methods, x)
	}
	return p
}

var usual = layout.Config{Cores: 2, Heap: 100, Depth: 5, Code: 1024, Hot: 1}

const (
	counts = "small 3;set 0;get 0;print;null;call 1;get 0;small -1;add;dup;set 0;if -14;ret/ret"
	races  = "new 0;set 1;get 1;spawn 1;get 1;getf 0 0;print;join;get 1;getf 0 0;print;ret/get 0;small 7;putf 0 0;ret"
)

func TestRunP2801(t *testing.T) {
	r := Run(Job{Program: program(t, counts), Config: usual, Rounds: 10000})
	if want := (Report{Status: api.Status{Kind: api.SDone}, Prints: []int64{3, 2, 1}, Events: 3, Judged: true, Pieces: 1}); !reflect.DeepEqual(r, want) {
		t.Errorf("%+v", r)
	}
	for _, rounds := range []int{0, -1, math.MinInt} {
		if r := Run(Job{Program: program(t, counts), Config: usual, Rounds: rounds}); r.Status.Kind != api.SRuns || r.Prints != nil || !r.Judged {
			t.Errorf("%d rounds: %+v", rounds, r)
		}
	}
	moves := slices.Repeat([]api.Move{{Kind: api.KFetch}, {Kind: 99}, {Kind: api.KDo}, {Kind: vm.KHot, N: 1}, {Kind: api.KFetch, Core: 1}, {Kind: api.KDo, Core: 1}}, 2000)
	if r := Run(Job{Program: program(t, races), Config: usual, Moves: moves}); r.Status.Kind != api.SDone || !r.Judged || r.Prints[1] != 7 {
		t.Errorf("%+v", r)
	}
	for s, want := range map[string]api.Errno{"add": api.ErrStack, "nop": api.ErrEnd} {
		if r := Run(Job{Program: program(t, s), Config: usual, Rounds: 5}); !reflect.DeepEqual(r, Report{Err: want}) {
			t.Errorf("%s: %+v", s, r)
		}
	}
	if r := Run(Job{}); !reflect.DeepEqual(r, Report{Err: api.ErrArg}) {
		t.Errorf("%+v", r)
	}
}

func TestFarmP2801(t *testing.T) {
	var jobs []Job
	for k := range 20 {
		s := []string{counts, races, "add", "small 1;small 0;div;drop;ret"}[k%4]
		jobs = append(jobs, Job{Program: program(t, s), Config: usual, Rounds: 100 * k})
	}
	for _, crew := range []int{0, -1, 9, math.MaxInt} {
		if l, e := Farm(crew, jobs...); l != nil || e != api.ErrArg {
			t.Errorf("crew %d: %v", crew, e)
		}
	}
	var want []Report
	for _, j := range jobs {
		want = append(want, Run(j))
	}
	for crew := 1; crew <= 8; crew++ {
		if l, e := Farm(crew, jobs...); e != api.OK || !reflect.DeepEqual(l, want) {
			t.Errorf("crew %d: %v", crew, e)
		}
		if l, e := Farm(crew); e != api.OK || len(l) != 0 {
			t.Errorf("crew %d without jobs: %v", crew, e)
		}
	}
}

func TestAgreeP2801(t *testing.T) {
	j := Job{Program: program(t, counts), Config: usual, Rounds: 10000}
	scripts := [][]api.Move{nil, {{Kind: api.KFetch}}, {{Kind: vm.KHot, N: 1}}, slices.Repeat([]api.Move{{Kind: api.KFetch}, {Kind: api.KDo}}, 500)}
	if !Agree(j, scripts) || !Agree(j, nil) || !Agree(Job{}, scripts) {
		t.Error("they agree")
	}
	j.Rounds = 0
	if Agree(j, scripts) {
		t.Error("one has printed more")
	}
	// the main thread reads ahead of the other's write, or behind it
	j = Job{Program: program(t, races), Config: usual, Rounds: 10000}
	late := slices.Repeat([]api.Move{{Kind: api.KFetch}, {Kind: api.KDo}}, 2000)
	early := slices.Repeat([]api.Move{{Kind: api.KFetch}, {Kind: api.KDo}, {Kind: api.KFetch, Core: 1}, {Kind: api.KDo, Core: 1}, {Kind: api.KFetch, Core: 1}, {Kind: api.KDo, Core: 1}, {Kind: api.KFetch, Core: 1}, {Kind: api.KDo, Core: 1}, {Kind: api.KFetch, Core: 1}, {Kind: api.KDo, Core: 1}}, 2000)
	if Agree(j, [][]api.Move{late, early}) {
		t.Error("a race may be seen")
	}
}

func TestParseTextP2802(t *testing.T) {
	l := []api.Move{{Kind: 1, Core: 2, N: 3, Addr: 0xabcdef}, {Kind: -7, Core: 999999999, N: -999999999, Addr: math.MaxUint64}, {}}
	const s = "1 2 3 abcdef\n-7 999999999 -999999999 ffffffffffffffff\n0 0 0 0\n"
	if Text(l...) != s || Text() != "" {
		t.Errorf("%q", Text(l...))
	}
	for _, text := range []string{s, s[:len(s)-1], "\n" + s + "\n\n", strings.ReplaceAll(s, "\n", "\n\n")} {
		if got, e := Parse(text); e != api.OK || !slices.Equal(got, l) {
			t.Errorf("%q: %v %v", text, got, e)
		}
	}
	if got, e := Parse(""); e != api.OK || len(got) != 0 {
		t.Error("nothing")
	}
	for _, text := range []string{"1", "1 2 3", "1 2 3 4 5", " 1 2 3 4", "1 2 3 4 ", "1  2 3 4", "1 2 3 4\r", "1\t2 3 4", " ", "a 2 3 4", "01 2 3 4", "-0 2 3 4", "+1 2 3 4", "1 1000000000 3 4", "1 2 -1000000000 4", "1 2 3 0x4", "1 2 3 04", "1 2 3 A", "1 2 3 g", "1 2 3 -4", "1 2 3 12345678912345678", "1 2 3 ", "1_0 2 3 4", "99999999999999999999 2 3 4", "1 2 3 4;"} {
		if got, e := Parse("1 2 3 4\n" + text); got != nil || e != api.ErrForm {
			t.Errorf("%q: %v %v", text, got, e)
		}
	}
	if Text(api.Move{Kind: 1000000000}, api.Move{Core: -1000000000}, api.Move{N: math.MinInt}, api.Move{Kind: 5}) != "5 0 0 0\n" {
		t.Error("those that cannot be said are left out")
	}
	many := strings.Repeat("1 0 0 0\n", api.MaxMoves)
	if got, e := Parse(many); e != api.OK || len(got) != api.MaxMoves {
		t.Errorf("%d moves: %v", len(got), e)
	}
	if got, e := Parse(many + "1 0 0 0"); got != nil || e != api.ErrMany {
		t.Errorf("one more: %v", e)
	}
	if got, e := Parse(many + "1 0 0 0\nbad"); got != nil || e != api.ErrForm {
		t.Errorf("one more, and a bad one: %v", e)
	}
}
