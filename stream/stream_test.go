package stream

import (
	"reflect"
	"slices"
	"testing"

	"soundservice/api"
	"soundservice/resample"
	"soundservice/ring"
)

const hi = 1<<23 - 1

func rat(num, den int64) api.Ratio { return api.Ratio{Num: num, Den: den} }

func mono(l ...int32) api.Block { return api.Block{Channels: 1, Data: l} }

func begun(t *testing.T, direction, channels int, base api.Ratio, capacity, start int) api.Stream {
	s, e := New(direction, channels, base, capacity, start)
	if e != api.OK {
		t.Fatal(e)
	}
	return s
}

// holding is a mono stream in a state, with the base 1/1 and some frames that wait.
func holding(t *testing.T, direction, state int, frames ...int32) api.Stream {
	s := begun(t, direction, 1, rat(1, 1), 10, 2)
	if direction == api.Playback {
		s.Resample.Rest = frames
	} else {
		s.Ring.Data, s.Ring.Written = frames, int64(len(frames))
		s.Resample.Rest = []int32{77}
	}
	s.State = state
	return s
}

func isZero(s api.Stream) bool { return reflect.DeepEqual(s, api.Stream{}) }

func invalid(t *testing.T) []api.Stream {
	var l []api.Stream
	for _, direction := range []int{api.Playback, api.Capture} {
		for _, change := range []func(*api.Stream){
			func(s *api.Stream) { s.Direction = 0 },
			func(s *api.Stream) { s.Direction = 3 - s.Direction },
			func(s *api.Stream) { s.State = 0 },
			func(s *api.Stream) { s.State = 8 },
			func(s *api.Stream) { s.Capacity = 0 },
			func(s *api.Stream) { s.Capacity = 65537 },
			func(s *api.Stream) { s.Capacity = 2 },
			func(s *api.Stream) { s.Start = -1 },
			func(s *api.Stream) { s.Start = 11 },
			func(s *api.Stream) { s.Resample.Phase.Adjust = 1 },
			func(s *api.Stream) { s.Resample.Channels = 2 },
			func(s *api.Stream) { s.Resample.Phase.Frac = -1 },
			func(s *api.Stream) { s.Written = -1 },
			func(s *api.Stream) { s.Played = -1 },
			func(s *api.Stream) { s.Missed = -1 },
			func(s *api.Stream) { s.Ring.Capacity = 11 },
			func(s *api.Stream) { s.Ring.Channels = 3 },
			func(s *api.Stream) { s.Ring.Written += 5 },
		} {
			s := holding(t, direction, api.Ready, 1, 2, 3)
			change(&s)
			l = append(l, s)
		}
	}
	return append(l, api.Stream{})
}

// P20.1
func TestValidAndNew(t *testing.T) {
	s := begun(t, api.Playback, 2, rat(147, 160), 65536, 65536)
	r, _ := resample.New(2, rat(147, 160))
	if !reflect.DeepEqual(s, api.Stream{Direction: api.Playback, State: api.Idle, Capacity: 65536, Start: 65536, Resample: r}) || !Valid(s) {
		t.Error(s)
	}
	s = begun(t, api.Capture, 8, rat(2, 1), 1, 0)
	r, _ = resample.New(8, rat(2, 1))
	b, _ := ring.New(8, 1)
	if !reflect.DeepEqual(s, api.Stream{Direction: api.Capture, State: api.Idle, Capacity: 1, Resample: r, Ring: b}) || !Valid(s) {
		t.Error(s)
	}
	for _, direction := range []int{api.Playback, api.Capture} {
		full := holding(t, direction, api.Ready, make([]int32, 10)...)
		if !Valid(full) || Room(full) != 0 {
			t.Error("a full stream")
		}
	}
	over := holding(t, api.Playback, api.Ready, make([]int32, 11)...)
	if Valid(over) {
		t.Error("too much waits")
	}
	for i, s := range invalid(t) {
		if Valid(s) {
			t.Error(i, s)
		}
	}
	for _, c := range []struct {
		direction, channels int
		base                api.Ratio
		capacity, start     int
	}{{0, 1, rat(1, 1), 5, 0}, {3, 1, rat(1, 1), 5, 0}, {1, 0, rat(1, 1), 5, 0}, {2, 9, rat(1, 1), 5, 0}, {1, 1, rat(2, 2), 5, 0}, {2, 1, api.Ratio{}, 5, 0}, {1, 1, rat(1, 1), 0, 0}, {2, 1, rat(1, 1), 65537, 0}, {1, 1, rat(1, 1), 5, 6}, {2, 1, rat(1, 1), 5, -1}} {
		if s, e := New(c.direction, c.channels, c.base, c.capacity, c.start); e != api.ErrInvalid || !isZero(s) {
			t.Error(c, s, e)
		}
	}
}

// P20.2
func TestWaitingRoomOwes(t *testing.T) {
	play, record := holding(t, api.Playback, api.Running, 1, 2, 3, 4, 5), holding(t, api.Capture, api.Running, 1, 2, 3)
	record.Ring.Written, record.Ring.Read = 103, 100
	if Waiting(play) != 5 || Room(play) != 5 || Waiting(record) != 3 || Room(record) != 7 {
		t.Error(Waiting(play), Room(play), Waiting(record), Room(record))
	}
	for _, s := range invalid(t) {
		if Waiting(s) != 0 || Room(s) != 0 {
			t.Error(s)
		}
		if n, e := Owes(s, -1); e != api.ErrInvalid || n != 0 {
			t.Error(n, e)
		}
	}
	for n, want := range map[int]int{0: 0, 1: 0, 4: 0, 5: 1, 6: 2, 65536: 65537 - 5} {
		if got, e := Owes(play, n); got != want || e != api.OK {
			t.Error(n, got, e)
		}
	}
	for _, n := range []int{-1, 65537, 1<<63 - 1} {
		if got, e := Owes(play, n); got != 0 || e != api.ErrRange {
			t.Error(n, got, e)
		}
	}
	if _, e := Owes(record, 1); e != api.ErrInvalid {
		t.Error(e)
	}
	double := begun(t, api.Playback, 1, rat(2, 1), 10, 0)
	if n, _ := Owes(double, 3); n != 6 {
		t.Error(n)
	}
}

// P20.3
func TestWrite(t *testing.T) {
	s := holding(t, api.Playback, api.Idle)
	s.Resample.Rest = make([]int32, 0, 9)
	x, e := Write(s, mono(1, 2))
	y, f := Write(s, mono(3, 4))
	if e != api.OK || f != api.OK || x.State != api.Ready || x.Written != 2 || !slices.Equal(x.Resample.Rest, []int32{1, 2}) || !slices.Equal(y.Resample.Rest, []int32{3, 4}) {
		t.Error(x, e)
	}
	if x, e := Write(s, mono(7)); e != api.OK || x.State != api.Ready || x.Written != 1 {
		t.Error(x, e)
	}
	if x, e := Write(s, mono()); e != api.OK || x.State != api.Idle || x.Written != 0 {
		t.Error(x, e)
	}
	for _, c := range []struct {
		s api.Stream
		b api.Block
		e api.Errno
	}{
		{invalid(t)[0], mono(), api.ErrInvalid}, {holding(t, api.Capture, api.Running), mono(), api.ErrInvalid}, {s, api.Block{}, api.ErrInvalid}, {s, mono(hi + 1), api.ErrInvalid},
		{holding(t, api.Playback, api.Dead), api.Block{Channels: 2}, api.ErrMismatch},
		{holding(t, api.Playback, api.Draining), mono(), api.ErrState}, {holding(t, api.Playback, api.Stopped), mono(make([]int32, 11)...), api.ErrState}, {holding(t, api.Playback, api.Dead), mono(1), api.ErrState},
		{holding(t, api.Playback, api.Ready, 1, 2), mono(make([]int32, 9)...), api.ErrFull}, {holding(t, api.Playback, api.Ready, 1, 2), mono(make([]int32, 8)...), api.OK},
		{holding(t, api.Playback, api.Running), mono(1), api.OK}, {holding(t, api.Playback, api.Paused), mono(1), api.OK},
	} {
		x, e := Write(c.s, c.b)
		if e != c.e || e != api.OK && !isZero(x) || e == api.OK && x.State != c.s.State && c.s.State != api.Idle {
			t.Error(c, x, e)
		}
	}
}

// P20.4
func TestRead(t *testing.T) {
	s := holding(t, api.Capture, api.Stopped, 1, 2, 3)
	for n, want := range map[int]int{0: 0, 2: 2, 3: 3, 9: 3} {
		b, x, e := Read(s, n)
		if e != api.OK || b.Channels != 1 || !slices.Equal(b.Data, []int32{1, 2, 3}[:want]) || !slices.Equal(x.Ring.Data, []int32{1, 2, 3}[want:]) || x.Written != int64(want) || !Valid(x) {
			t.Error(n, b, x, e)
		}
		x.Resample.Rest[0] = 5
	}
	if s.Resample.Rest[0] != 77 {
		t.Error("shared memory")
	}
	for _, c := range []struct {
		s api.Stream
		n int
		e api.Errno
	}{{invalid(t)[20], -1, api.ErrInvalid}, {holding(t, api.Playback, api.Ready, 1), -1, api.ErrInvalid}, {holding(t, api.Capture, api.Dead), -1, api.ErrRange}, {s, 65537, api.ErrRange}, {holding(t, api.Capture, api.Dead), 1, api.ErrState}, {s, 65536, api.OK}} {
		if b, x, e := Read(c.s, c.n); e != c.e || e != api.OK && (b.Data != nil || b.Channels != 0 || !isZero(x)) {
			t.Error(c, e)
		}
	}
}

// P20.5: all commands from all states.
func TestDo(t *testing.T) {
	none := 0
	for _, c := range []struct {
		command, direction int
		after              [8]int // by the state before; 0: not possible
		empties            bool
	}{
		{api.CmdStart, api.Playback, [8]int{api.Ready: api.Running}, false},
		{api.CmdStart, api.Capture, [8]int{api.Idle: api.Running, api.Ready: api.Running}, false},
		{api.CmdPause, none, [8]int{api.Running: api.Paused}, false},
		{api.CmdResume, none, [8]int{api.Paused: api.Running}, false},
		{api.CmdDrain, api.Playback, [8]int{api.Ready: api.Draining, api.Running: api.Draining, api.Paused: api.Draining}, false},
		{api.CmdDrain, api.Capture, [8]int{}, false},
		{api.CmdStop, none, [8]int{api.Idle: api.Stopped, api.Ready: api.Stopped, api.Running: api.Stopped, api.Paused: api.Stopped, api.Draining: api.Stopped}, true},
		{api.CmdKill, none, [8]int{api.Idle: api.Dead, api.Ready: api.Dead, api.Running: api.Dead, api.Paused: api.Dead, api.Draining: api.Dead, api.Stopped: api.Dead}, true},
		{api.CmdRewind, none, [8]int{api.Idle: api.Idle, api.Ready: api.Idle, api.Running: api.Running, api.Paused: api.Paused}, true},
	} {
		for _, direction := range []int{api.Playback, api.Capture} {
			for state := api.Idle; state <= api.Dead && (c.direction == none || c.direction == direction); state++ {
				s := holding(t, direction, state, 1, 2, 3)
				s.Written, s.Played, s.Missed = 9, 8, 7
				s.Resample.Phase.Pos, s.Resample.Phase.Frac = 5, 6
				x, e := Do(s, c.command)
				if c.after[state] == 0 {
					if e != api.ErrState || !isZero(x) {
						t.Error(c, direction, state, x, e)
					}
					continue
				}
				want := s
				want.State = c.after[state]
				if c.empties {
					want.Resample, _ = resample.New(1, rat(1, 1))
					if direction == api.Capture {
						want.Ring, _ = ring.Clear(s.Ring)
					}
				}
				if e != api.OK || !reflect.DeepEqual(x, want) || !Valid(x) {
					t.Error(c, direction, state, x, e)
				}
			}
		}
	}
}

// P20.5: when a stream may start, and the order of errors.
func TestDoErrors(t *testing.T) {
	eager := holding(t, api.Playback, api.Idle)
	eager.Start = 0
	for _, c := range []struct {
		s       api.Stream
		command int
		e       api.Errno
	}{
		{invalid(t)[0], api.CmdKill, api.ErrInvalid}, {eager, 0, api.ErrInvalid}, {eager, 8, api.ErrInvalid}, {eager, -1, api.ErrInvalid}, {api.Stream{}, 99, api.ErrInvalid},
		{eager, api.CmdStart, api.OK}, {holding(t, api.Playback, api.Idle), api.CmdStart, api.ErrState}, {holding(t, api.Playback, api.Running), api.CmdStart, api.ErrState},
		{holding(t, api.Playback, api.Ready, 1), api.CmdStart, api.ErrShort}, {holding(t, api.Playback, api.Ready, 1, 2), api.CmdStart, api.OK}, {holding(t, api.Capture, api.Ready), api.CmdStart, api.OK},
	} {
		if x, e := Do(c.s, c.command); e != c.e || e != api.OK && !isZero(x) {
			t.Error(c, x, e)
		}
	}
	s := holding(t, api.Playback, api.Running, 1, 2)
	x, _ := Do(s, api.CmdPause)
	x.Resample.Rest[0] = 9
	if s.Resample.Rest[0] != 1 {
		t.Error("shared memory")
	}
}

// P20.6
func TestTakeRunning(t *testing.T) {
	s := holding(t, api.Playback, api.Running, 10, 20, 30)
	b, missing, x, e := Take(s, 4)
	if e != api.OK || missing != 2 || b.Channels != 1 || !slices.Equal(b.Data, []int32{10, 20, 0, 0}) || x.Played != 4 || x.Missed != 2 || x.State != api.Running || !slices.Equal(x.Resample.Rest, []int32{30}) {
		t.Error(b, missing, x, e)
	}
	b, missing, x, e = Take(s, 1)
	if e != api.OK || missing != 0 || !slices.Equal(b.Data, []int32{10}) || x.Played != 1 || x.Missed != 0 {
		t.Error(b, missing, x, e)
	}
	// A stream that owes nothing misses nothing.
	r := begun(t, api.Playback, 2, rat(147, 160), 500, 0)
	r.State = api.Running
	for range 50 {
		owes, _ := Owes(r, 64)
		r, e = Write(r, api.Block{Channels: 2, Data: make([]int32, 2*owes)})
		if e != api.OK {
			t.Fatal(e)
		}
		_, missing, r, e = Take(r, 64)
		if e != api.OK || missing != 0 || r.Missed != 0 {
			t.Fatal(missing, e)
		}
	}
}

// P20.6
func TestTakeOtherStates(t *testing.T) {
	s := holding(t, api.Playback, api.Draining, 10, 20, 30)
	b, missing, x, e := Take(s, 2)
	if e != api.OK || missing != 0 || !slices.Equal(b.Data, []int32{10, 20}) || x.State != api.Draining || x.Played != 2 || x.Missed != 0 || !slices.Equal(x.Resample.Rest, []int32{30}) || x.Resample.Phase.Pos != 2 {
		t.Error(b, missing, x, e)
	}
	b, missing, x, e = Take(s, 3)
	if e != api.OK || missing != 0 || !slices.Equal(b.Data, []int32{10, 20, 30}) || x.State != api.Stopped || x.Played != 3 {
		t.Error(b, missing, x, e)
	}
	b, missing, x, e = Take(s, 5)
	if e != api.OK || missing != 0 || !slices.Equal(b.Data, []int32{10, 20, 30, 0, 0}) || x.State != api.Stopped || x.Played != 5 {
		t.Error(b, missing, x, e)
	}
	if _, _, x, _ := Take(s, 0); x.State != api.Draining {
		t.Error(x)
	}
	if _, _, x, _ := Take(holding(t, api.Playback, api.Draining), 0); x.State != api.Stopped {
		t.Error(x)
	}
	for _, state := range []int{api.Idle, api.Ready, api.Paused, api.Stopped, api.Dead} {
		s := holding(t, api.Playback, state, 10, 20, 30)
		b, missing, x, e := Take(s, 2)
		if e != api.OK || missing != 0 || !slices.Equal(b.Data, []int32{0, 0}) || !reflect.DeepEqual(x, s) {
			t.Error(state, b, missing, x, e)
		}
		x.Resample.Rest[0] = 9
		if s.Resample.Rest[0] != 10 {
			t.Error("shared memory")
		}
	}
}

// P20.6: errors and their order.
func TestTakeErrors(t *testing.T) {
	far := holding(t, api.Playback, api.Running, 1, 2, 3)
	far.Resample.Phase.Pos = 1 << 50
	drained := far
	drained.State = api.Draining
	for _, c := range []struct {
		s api.Stream
		n int
		e api.Errno
	}{{invalid(t)[3], -1, api.ErrInvalid}, {holding(t, api.Capture, api.Running), 1, api.ErrInvalid}, {far, -1, api.ErrRange}, {holding(t, api.Playback, api.Idle), 65537, api.ErrRange}, {far, 2, api.ErrRange}, {drained, 2, api.ErrRange}, {far, 0, api.OK}} {
		if b, missing, x, e := Take(c.s, c.n); e != c.e || e != api.OK && (b.Data != nil || b.Channels != 0 || missing != 0 || !isZero(x)) {
			t.Error(c, e)
		}
	}
}

// P20.7
func TestGive(t *testing.T) {
	s := begun(t, api.Capture, 1, rat(1, 2), 5, 0)
	s.State = api.Running
	lost, x, e := Give(s, mono(0, 10, 20, 30))
	if e != api.OK || lost != 1 || !slices.Equal(x.Ring.Data, []int32{0, 5, 10, 15, 20}) || !slices.Equal(x.Resample.Rest, []int32{30}) || x.Played != 4 || x.Missed != 1 || x.Written != 0 || !Valid(x) {
		t.Error(lost, x, e)
	}
	for state := api.Idle; state <= api.Dead; state++ {
		s := holding(t, api.Capture, state, 4, 5)
		lost, x, e := Give(s, mono(1, 2, 3))
		if e != api.OK || lost != 0 || state != api.Running && !reflect.DeepEqual(x, s) || state == api.Running && (x.Played != 3 || len(x.Ring.Data) != 5) {
			t.Error(state, lost, x, e)
		}
		x.Ring.Data[0] = 9
		if s.Ring.Data[0] != 4 {
			t.Error("shared memory")
		}
	}
	far := holding(t, api.Capture, api.Running)
	far.Resample.Phase.Pos = 1 << 50
	end := holding(t, api.Capture, api.Running)
	end.Ring.Written, end.Ring.Read = 1<<50, 1<<50
	full := holding(t, api.Capture, api.Running)
	full.Resample.Rest = make([]int32, 65536)
	for i, c := range []struct {
		s api.Stream
		b api.Block
		e api.Errno
	}{
		{invalid(t)[25], mono(), api.ErrInvalid}, {holding(t, api.Playback, api.Running), mono(), api.ErrInvalid}, {far, api.Block{}, api.ErrInvalid}, {far, mono(hi + 1), api.ErrInvalid},
		{holding(t, api.Capture, api.Idle), api.Block{Channels: 2}, api.ErrMismatch}, {far, mono(1, 2, 3), api.ErrRange}, {end, mono(1, 2, 3), api.ErrRange}, {full, mono(1), api.ErrLimit},
	} {
		if lost, x, e := Give(c.s, c.b); e != c.e || lost != 0 || !isZero(x) {
			t.Error(i, lost, x, e)
		}
	}
}
