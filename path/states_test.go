package path_test

import (
	"fmt"
	"math"
	"math/rand"
	"slices"
	"strings"
	"testing"

	"bushel/api"
	"bushel/path"
)

// P5.3: states and interlocks.

// ring is a plant with a ring of conveyors, and bins that are fed and feed.
func ring() api.Plant {
	return plantOf([][2]int{{0, 1}, {1, 2}, {2, 0}, {2, 3}, {3, 4}, {4, 5}, {5, 6}, {3, 7}, {4, 1}}, "belt", "leg", "gate", "bin", "scale", "bin", "spout", "bin")
}

// turning is the ring's state in which its conveyors feed each other.
func turning() []api.Status {
	state := idle(ring())
	for machine := range 3 {
		state[machine] = api.Status{Runs: machine != 0, Feeds: (machine + 1) % 3, Grain: "oats"}
	}
	state[0].Runs = true
	return state
}

// cascade is the ring's state in which grain goes from the conveyors 1 and 2 over the bin 3 into the bin 5.
func cascade() []api.Status {
	state := idle(ring())
	state[1] = api.Status{Runs: true, Feeds: 2, Grain: "oats"}
	state[2] = api.Status{Runs: true, Feeds: 3, Grain: "oats"}
	state[3] = api.Status{Feeds: 4, Grain: "oats"}
	state[4] = api.Status{Runs: true, Feeds: 5, Grain: "oats"}
	state[5] = api.Status{Feeds: -1, Grain: "oats"}
	return state
}

// stateFaults are the errors of states in their order, for the example's state in use.
func stateFaults() []fault {
	status := func(what string, e api.Errno, machine int, change func(s *api.Status)) fault {
		return fault{what, e, func(a *args) { change(&a.state[machine]) }}
	}
	return []fault{
		plantFault(),
		{"too few statuses", api.ErrShape, func(a *args) { a.state = a.state[:8] }},
		{"too many statuses", api.ErrShape, func(a *args) { a.state = append(a.state, api.Status{Runs: true}) }},
		status("a pit that runs", api.ErrKind, 0, func(s *api.Status) { *s = api.Status{Runs: true, Feeds: 9, Grain: "?"} }),
		status("an arc against its direction", api.ErrUnknown, 1, func(s *api.Status) { s.Feeds, s.Grain = 0, "?" }),
		status("a machine that feeds itself", api.ErrUnknown, 2, func(s *api.Status) { s.Feeds = 2 }),
		status("a machine that feeds another one without an arc", api.ErrUnknown, 3, func(s *api.Status) { s.Feeds = 7 }),
		status("a bin that runs", api.ErrKind, 4, func(s *api.Status) { s.Runs, s.Feeds = true, 77 }),
		status("a grain that is no name", api.ErrName, 5, func(s *api.Status) { s.Grain = "?" }),
		status("a grain with a long name", api.ErrName, 6, func(s *api.Status) { s.Grain = strings.Repeat("x", api.MaxName+1) }),
		status("a spout with a bad grain", api.ErrName, 7, func(s *api.Status) { s.Grain = " " }),
		status("a spout with a grain", api.ErrGrain, 7, func(s *api.Status) { s.Grain = "wheat" }),
		status("a conveyor that feeds an unknown machine", api.ErrUnknown, 8, func(s *api.Status) { s.Feeds = -2 }),
		status("a state that is not valid", api.ErrState, 3, func(s *api.Status) { s.Runs = false }),
	}
}

func TestErrorsOfStates(t *testing.T) {
	expectErrors(t, "CheckState", goodArgs(), stateFaults())
	behind := args{plant: example(), path: []int{9}, machine: 9}
	for _, name := range []string{"Start", "Stop", "Clean", "Upstream", "Fault", "Resume"} {
		for _, f := range stateFaults() {
			a := copyOf(behind)
			a.state = inUse()
			f.change(&a)
			expectError(t, name+": "+f.what, name, a, f.e)
		}
	}
	good := goodArgs()
	faults := append([]fault{plantFault(), stateFaults()[1]}, pathFaults()...)
	unset := fault{"a path that is not set", api.ErrState, func(a *args) { a.path = []int{0, 1, 2, 3, 5} }}
	parted := fault{"a path that is set but for its first machine", api.ErrState, func(a *args) { a.state[0].Feeds = -1 }}
	for _, name := range []string{"Stop", "Clean", "Resume"} {
		expectErrors(t, name, good, append(faults, unset, parted))
	}
	expectErrors(t, "Clean", good, []fault{{"a path that stands still in part", api.ErrState, func(a *args) { a.state[1].Runs = false }}})
	unknown := fault{"an unknown machine", api.ErrUnknown, func(a *args) { a.machine = 9 }}
	far := fault{"a far machine", api.ErrUnknown, func(a *args) { a.machine = math.MinInt }}
	expectErrors(t, "Upstream", good, []fault{plantFault(), stateFaults()[1], unknown, far})
	expectErrors(t, "Fault", good, []fault{
		plantFault(), stateFaults()[1], unknown, far,
		{"a pit", api.ErrKind, func(a *args) { a.machine = 0 }}, {"a bin", api.ErrKind, func(a *args) { a.machine = 4 }},
		{"a spout", api.ErrKind, func(a *args) { a.machine = 7 }},
	})
}

func TestErrorsOfStart(t *testing.T) {
	good := goodArgs()
	good.state = idle(example())
	noName := fault{"a grain that is no name", api.ErrName, func(a *args) { a.grain = "" }}
	faults := append([]fault{plantFault(), stateFaults()[1]}, pathFaults()...)
	expectErrors(t, "Start", good, append(faults, noName, fault{"grain in the last machine", api.ErrGrain, func(a *args) { a.state[4].Grain = "wheat" }}))
	fed := func(a *args) {
		a.state[5], a.state[6] = api.Status{Feeds: 6, Grain: "rye"}, api.Status{Feeds: -1, Grain: "rye"}
	}
	good.path = []int{5, 6, 7}
	good.state[5].Grain = "rye"
	expectErrors(t, "Start", good, []fault{
		noName,
		{"a bin that feeds", api.ErrState, fed},
		{"a bin without grain", api.ErrEmpty, func(a *args) { a.state[5].Grain = "" }},
		{"a bin with another grain", api.ErrGrain, func(a *args) { a.state[5].Grain = "wheat" }},
		{"a conveyor with another grain", api.ErrGrain, func(a *args) { a.state[6].Grain = "wheat" }},
	})
	for _, row := range []struct {
		what   string
		change func(a *args)
		e      api.Errno
	}{
		{"a bin that is fed", func(a *args) { a.state[3], a.state[5].Grain = api.Status{Feeds: 5, Grain: "rye"}, "rye" }, api.ErrState},
		{"an empty bin comes before a conveyor that runs", func(a *args) { a.state[5].Grain, a.state[6] = "", api.Status{Runs: true, Feeds: 7, Grain: "rye"} }, api.ErrEmpty},
		{"a conveyor that runs comes before its grain", func(a *args) { a.state[6] = api.Status{Runs: true, Feeds: 7, Grain: "wheat"} }, api.ErrState},
		{"a conveyor that is fed", func(a *args) {
			a.state[8], a.state[6] = api.Status{Feeds: 6, Grain: "rye"}, api.Status{Feeds: -1, Grain: "rye"}
		}, api.ErrState},
		{"a spout that is fed is reached behind the conveyor", func(a *args) { a.state[6] = api.Status{Feeds: 7, Grain: "rye"} }, api.ErrState},
		{"grain in all of them", func(a *args) { a.state[6].Grain = "rye" }, api.OK},
	} {
		a := copyOf(good)
		row.change(&a)
		_, e := calls()["Start"](a)
		expect(t, row.what, e, row.e)
	}
	pair := plantOf([][2]int{{0, 1}, {1, 3}, {2, 3}, {3, 4}, {4, 5}}, "pit", "belt", "belt", "bin", "belt", "spout")
	state := idle(pair)
	state[2], state[3] = api.Status{Runs: true, Feeds: 3, Grain: "rye"}, api.Status{Feeds: -1, Grain: "rye"}
	_, e := path.Start(pair, state, []int{0, 1, 3}, "rye")
	expect(t, "a last bin that is fed", e, api.ErrState)
	state[2], state[3], state[4] = api.Status{Feeds: -1}, api.Status{Feeds: 4, Grain: "rye"}, api.Status{Runs: true, Feeds: 5, Grain: "rye"}
	_, e = path.Start(pair, state, []int{0, 1, 3}, "rye")
	expect(t, "a last bin that feeds", e, api.ErrState)
}

func TestCheckState(t *testing.T) {
	expect(t, "an idle state", path.CheckState(example(), idle(example())), api.OK)
	expect(t, "a state in use", path.CheckState(example(), inUse()), api.OK)
	expect(t, "a ring", path.CheckState(ring(), turning()), api.OK)
	expect(t, "a cascade", path.CheckState(ring(), cascade()), api.OK)
	for _, row := range []struct {
		what   string
		change func(s []api.Status)
		e      api.Errno
	}{
		{"two machines that feed the same one", func(s []api.Status) {
			s[5], s[8] = api.Status{Feeds: 6, Grain: "rye"}, api.Status{Feeds: 6, Grain: "rye"}
			s[6].Grain = "rye"
		}, api.ErrState},
		{"one of them", func(s []api.Status) {
			s[8], s[6] = api.Status{Feeds: 6, Grain: "rye"}, api.Status{Feeds: -1, Grain: "rye"}
		}, api.OK},
		{"a conveyor that runs and feeds nothing", func(s []api.Status) { s[8] = api.Status{Runs: true, Feeds: -1, Grain: "rye"} }, api.ErrState},
		{"one that feeds a conveyor that stands still", func(s []api.Status) { s[2].Runs = false }, api.ErrState},
		{"all ahead of it stand still", func(s []api.Status) { s[1].Runs, s[2].Runs = false, false }, api.OK},
		{"no conveyor runs", func(s []api.Status) { s[1].Runs, s[2].Runs, s[3].Runs = false, false, false }, api.OK},
		{"a conveyor without grain that feeds", func(s []api.Status) { s[8].Feeds, s[6].Grain = 6, "rye" }, api.ErrState},
		{"a conveyor without grain that is fed", func(s []api.Status) { s[8] = api.Status{Feeds: 6, Grain: "rye"} }, api.ErrState},
		{"none has a grain", func(s []api.Status) { s[8].Feeds = 6 }, api.ErrState},
		{"another grain", func(s []api.Status) { s[2].Grain = "rye" }, api.ErrState},
		{"another grain in the bin", func(s []api.Status) { s[4].Grain = "rye" }, api.ErrState},
		{"no grain in the bin", func(s []api.Status) { s[4].Grain = "" }, api.ErrState},
		{"a spout that is fed without grain", func(s []api.Status) { s[6].Feeds = 7 }, api.ErrState},
		{"a spout that is fed", func(s []api.Status) { s[6] = api.Status{Runs: true, Feeds: 7, Grain: "rye"} }, api.OK},
		{"a pit alone", func(s []api.Status) { copy(s, idle(example())); s[0].Feeds = 1 }, api.ErrState},
		{"a pit and a conveyor with grain", func(s []api.Status) { copy(s, idle(example())); s[0].Feeds, s[1].Grain = 1, "rye" }, api.OK},
		{"grains that are left", func(s []api.Status) { s[5].Grain, s[6].Grain, s[8].Grain = "rye", "oats", "x" }, api.OK},
		{"the longest name", func(s []api.Status) { s[5].Grain = strings.Repeat("x", api.MaxName) }, api.OK},
	} {
		state := inUse()
		row.change(state)
		expect(t, row.what, path.CheckState(example(), state), row.e)
	}
	direct := plantOf([][2]int{{0, 1}}, "pit", "spout")
	expect(t, "a pit that feeds a spout", path.CheckState(direct, []api.Status{{Feeds: 1}, {Feeds: -1}}), api.OK)
}

// isDefinedState reports whether statuses are a valid state, word by word as the chapter defines it.
func isDefinedState(p api.Plant, state []api.Status) bool {
	for i, a := range state {
		for k, b := range state {
			if i != k && a.Feeds >= 0 && a.Feeds == b.Feeds {
				return false
			}
			if a.Feeds != k {
				continue
			}
			if a.Runs && !isEnd(p, k) && !b.Runs || keeps(p, i) && a.Grain == "" || keeps(p, k) && b.Grain == "" {
				return false
			}
			if keeps(p, i) && keeps(p, k) && a.Grain != b.Grain {
				return false
			}
		}
		if a.Runs && a.Feeds < 0 {
			return false
		}
	}
	return true
}

// randomState returns statuses without an error of their own; few grains and long rows make many of them valid.
func randomState(r *rand.Rand, p api.Plant) []api.Status {
	state := idle(p)
	for machine := range state {
		if keeps(p, machine) && r.Intn(4) > 0 {
			state[machine].Grain = []string{"wheat", "wheat", "wheat", "rye"}[r.Intn(4)]
		}
	}
	for _, arc := range p.Arcs {
		if r.Intn(3) == 0 {
			state[arc[0]].Feeds = arc[1]
			state[arc[0]].Runs = !isEnd(p, arc[0]) && (isEnd(p, arc[1]) || state[arc[1]].Runs) && r.Intn(4) > 0
		}
	}
	return state
}

func TestCheckStateAgainstTheDefinition(t *testing.T) {
	r := rand.New(rand.NewSource(56))
	valid := 0
	for range 20000 {
		p := randomPlant(r, 2+r.Intn(5), 8)
		state := randomState(r, p)
		want := api.ErrState
		if isDefinedState(p, state) {
			want = api.OK
			valid++
		}
		expect(t, fmt.Sprint("CheckState ", p, state), path.CheckState(p, state), want)
	}
	if valid < 5000 || valid > 19000 {
		t.Errorf("%d valid states", valid)
	}
}

func TestExamplesOfStates(t *testing.T) {
	p := example()
	empty, e := path.Empty(p)
	expect(t, "Empty", []any{empty, e}, []any{idle(p), api.OK})
	started, e := path.Start(p, empty, []int{0, 1, 2, 3, 4}, "wheat")
	expect(t, "Start", []any{started, e}, []any{inUse(), api.OK})
	_, e = path.Start(p, started, []int{5, 6, 7}, "rye")
	expect(t, "Start from an empty bin", e, api.ErrEmpty)
	_, e = path.Start(p, started, []int{0, 1, 2, 3, 5}, "rye")
	expect(t, "Start of machines in use", e, api.ErrState)
	stopped, e := path.Stop(p, started, []int{0, 1, 2, 3, 4})
	left := idle(p)
	for machine := 1; machine <= 4; machine++ {
		left[machine].Grain = "wheat"
	}
	expect(t, "Stop", []any{stopped, e}, []any{left, api.OK})
	_, e = path.Start(p, stopped, []int{0, 1, 2, 3, 5}, "rye")
	expect(t, "Start with another grain", e, api.ErrGrain)
	other, e := path.Start(p, stopped, []int{0, 1, 2, 3, 5}, "wheat")
	expect(t, "Start with the same grain", []any{other[3], other[4].Grain, other[5].Grain, e}, []any{api.Status{Runs: true, Feeds: 5, Grain: "wheat"}, "wheat", "wheat", api.OK})
	clean, e := path.Clean(p, other, []int{0, 1, 2, 3, 5})
	left = idle(p)
	left[4].Grain, left[5].Grain = "wheat", "wheat"
	expect(t, "Clean", []any{clean, e}, []any{left, api.OK})
	_, e = path.Start(p, clean, []int{0, 1, 2, 3, 4}, "rye")
	expect(t, "Start into a bin with another grain", e, api.ErrGrain)
	outwards, e := path.Start(p, clean, []int{5, 6, 7}, "wheat")
	left[5].Feeds, left[6] = 6, api.Status{Runs: true, Feeds: 7, Grain: "wheat"}
	expect(t, "Start to a spout", []any{outwards, e}, []any{left, api.OK})
}

func TestFaults(t *testing.T) {
	halted := inUse()
	halted[1].Runs, halted[2].Runs = false, false
	got, e := path.Fault(example(), inUse(), 2)
	expect(t, "Fault", []any{got, e}, []any{halted, api.OK})
	got, e = path.Fault(example(), halted, 2)
	expect(t, "the same fault again", []any{got, e}, []any{halted, api.OK})
	upstream, e := path.Upstream(example(), halted, 2)
	expect(t, "Upstream", []any{upstream, e}, []any{[]int{0, 1}, api.OK})
	_, e = path.Clean(example(), halted, []int{0, 1, 2, 3, 4})
	expect(t, "Clean of a path that stands still in part", e, api.ErrState)
	got, e = path.Resume(example(), halted, []int{0, 1, 2, 3, 4})
	expect(t, "Resume", []any{got, e}, []any{inUse(), api.OK})
	got, e = path.Resume(example(), inUse(), []int{0, 1, 2, 3, 4})
	expect(t, "Resume of what runs", []any{got, e}, []any{inUse(), api.OK})
	got, e = path.Fault(example(), inUse(), 8)
	expect(t, "Fault of a machine that stands still", []any{got, e}, []any{inUse(), api.OK})
	for machine := range 3 {
		still := turning()
		for i := range 3 {
			still[i].Runs = false
		}
		got, e = path.Fault(ring(), turning(), machine)
		expect(t, "Fault in a ring", []any{got, e}, []any{still, api.OK})
	}
	still := cascade()
	still[1].Runs, still[2].Runs, still[4].Runs = false, false, false
	got, e = path.Fault(ring(), cascade(), 4)
	expect(t, "Fault behind a bin that is fed", []any{got, e}, []any{still, api.OK})
	for _, row := range []struct {
		state   []api.Status
		machine int
		want    []int
	}{
		{turning(), 0, []int{1, 2}}, {turning(), 1, []int{0, 2}}, {turning(), 2, []int{0, 1}}, {turning(), 3, nil},
		{cascade(), 5, []int{1, 2, 3, 4}}, {cascade(), 4, []int{1, 2, 3}}, {cascade(), 1, nil}, {cascade(), 6, nil},
	} {
		upstream, e := path.Upstream(ring(), row.state, row.machine)
		expect(t, "Upstream", e, api.OK)
		expectList(t, "Upstream", upstream, row.want)
	}
}

// TestBinsBetweenPaths checks that a path that is given up leaves what feeds its first bin, and what its last one feeds.
func TestBinsBetweenPaths(t *testing.T) {
	want := cascade()
	want[3].Feeds = -1
	want[4] = api.Status{Feeds: -1, Grain: "oats"}
	got, e := path.Stop(ring(), cascade(), []int{3, 4, 5})
	expect(t, "Stop", []any{got, e}, []any{want, api.OK})
	want[4].Grain = ""
	got, e = path.Clean(ring(), cascade(), []int{3, 4, 5})
	expect(t, "Clean", []any{got, e}, []any{want, api.OK})
	state := idle(ring())
	state[3], state[7], state[5] = api.Status{Feeds: 7, Grain: "oats"}, api.Status{Feeds: -1, Grain: "oats"}, api.Status{Feeds: 6, Grain: "rye"}
	for _, name := range []string{"Stop", "Clean"} {
		results, e := calls()[name](args{plant: ring(), state: state, path: []int{3, 7}})
		want := slices.Clone(state)
		want[3].Feeds = -1
		expect(t, name+" of a path without conveyors", []any{results[0], e}, []any{want, api.OK})
	}
	got, e = path.Resume(ring(), state, []int{3, 7})
	expect(t, "Resume of a path without conveyors", []any{got, e}, []any{state, api.OK})
}

// isSet reports whether a path is set.
func isSet(state []api.Status, l []int) bool {
	for i := range len(l) - 1 {
		if state[l[i]].Feeds != l[i+1] {
			return false
		}
	}
	return true
}

// expectedStart returns the result of Start for a valid state, a path and a name.
func expectedStart(p api.Plant, state []api.Status, l []int, grain string) ([]api.Status, api.Errno) {
	result := slices.Clone(state)
	for place, machine := range l {
		isFed := slices.ContainsFunc(state, func(s api.Status) bool { return s.Feeds == machine })
		if state[machine].Runs || state[machine].Feeds != -1 || isFed {
			return nil, api.ErrState
		}
		if isOneOf(p, machine, "bin") && place == 0 && state[machine].Grain == "" {
			return nil, api.ErrEmpty
		}
		if state[machine].Grain != "" && state[machine].Grain != grain {
			return nil, api.ErrGrain
		}
		if place < len(l)-1 {
			result[machine].Feeds = l[place+1]
		}
		if keeps(p, machine) {
			result[machine].Grain = grain
		}
		result[machine].Runs = !isEnd(p, machine)
	}
	return result, api.OK
}

// expectedEnd returns the result of Stop or Clean for a valid state and a path.
func expectedEnd(p api.Plant, state []api.Status, l []int, isClean bool) ([]api.Status, api.Errno) {
	if !isSet(state, l) {
		return nil, api.ErrState
	}
	result := slices.Clone(state)
	for _, machine := range l[:len(l)-1] {
		result[machine] = api.Status{Feeds: -1, Grain: state[machine].Grain}
		if !isEnd(p, machine) && isClean {
			result[machine].Grain = ""
			if !state[machine].Runs {
				return nil, api.ErrState
			}
		}
	}
	return result, api.OK
}

// TestOperationsOnRandomStates checks all operations on all paths of small plants in valid states.
func TestOperationsOnRandomStates(t *testing.T) {
	r := rand.New(rand.NewSource(57))
	done := map[string]int{}
	for range 20000 {
		p := randomPlant(r, 3+r.Intn(5), 14)
		state := randomState(r, p)
		if !isDefinedState(p, state) {
			continue
		}
		check := func(name string, got []api.Status, e api.Errno, want []api.Status, wanted api.Errno) {
			expect(t, fmt.Sprint(name, p, state), e, wanted)
			expectList(t, fmt.Sprint(name, p, state), got, want)
			if e == api.OK {
				done[name]++
				expect(t, fmt.Sprint(name, p, state), path.CheckState(p, got), api.OK)
			}
		}
		for _, l := range allPaths(p) {
			for _, grain := range []string{"wheat", "rye"} {
				got, e := path.Start(p, state, l, grain)
				want, wanted := expectedStart(p, state, l, grain)
				check("Start", got, e, want, wanted)
			}
			got, e := path.Stop(p, state, l)
			want, wanted := expectedEnd(p, state, l, false)
			check("Stop", got, e, want, wanted)
			got, e = path.Clean(p, state, l)
			want, wanted = expectedEnd(p, state, l, true)
			check("Clean", got, e, want, wanted)
			got, e = path.Resume(p, state, l)
			want, wanted = slices.Clone(state), api.OK
			if !isSet(state, l) {
				want, wanted = nil, api.ErrState
			}
			for _, machine := range l {
				if wanted == api.OK && !isEnd(p, machine) {
					want[machine].Runs = true
				}
			}
			check("Resume", got, e, want, wanted)
		}
		for machine := range p.Machines {
			checkFault(t, p, state, machine)
		}
	}
	for _, name := range []string{"Start", "Stop", "Clean", "Resume"} {
		if done[name] < 100 {
			t.Errorf("%s: only %d without an error", name, done[name])
		}
	}
}

// checkFault checks Upstream and Fault for a machine in a valid state.
func checkFault(t *testing.T, p api.Plant, state []api.Status, machine int) {
	t.Helper()
	isUpstream := make([]bool, len(state))
	for range state {
		for i, s := range state {
			if i != machine && s.Feeds >= 0 && (s.Feeds == machine || isUpstream[s.Feeds]) {
				isUpstream[i] = true
			}
		}
	}
	var upstream []int
	want := slices.Clone(state)
	want[machine].Runs = false
	for i, is := range isUpstream {
		if is {
			upstream = append(upstream, i)
			want[i].Runs = false
		}
	}
	what := fmt.Sprint("Upstream and Fault ", p, state, machine)
	got, e := path.Upstream(p, state, machine)
	expect(t, what, e, api.OK)
	expectList(t, what, got, upstream)
	halted, e := path.Fault(p, state, machine)
	if isEnd(p, machine) {
		expect(t, what, []any{len(halted), e}, []any{0, api.ErrKind})
		return
	}
	expect(t, what, []any{halted, e, path.CheckState(p, halted)}, []any{want, api.OK, api.OK})
}
