package console

import (
	"slices"
	"strconv"
	"strings"

	"soundservice/api"
	"soundservice/descriptor"
	"soundservice/protocol"
	"soundservice/wire"
	"soundservice/words"
)

func sameRequest(a, b api.Request) bool {
	numbers := a.Kind == b.Kind && a.ID == b.ID && a.Direction == b.Direction && a.Channels == b.Channels && a.Rate == b.Rate && a.Latency == b.Latency && a.N == b.N && a.Device == b.Device
	return numbers && a.Role == b.Role && slices.Equal(a.Data, b.Data) && a.Text == b.Text
}

func sameBox(a, b api.Box) bool {
	sets := slices.Equal(a.Rates.Spans, b.Rates.Spans) && slices.Equal(a.Sizes.Spans, b.Sizes.Spans)
	return sets && a.Kinds == b.Kinds && slices.EqualFunc(a.Maps, b.Maps, func(x, y []int) bool { return slices.Equal(x, y) })
}

func sameDescriptor(a, b api.Descriptor) bool {
	numbers := a.ID == b.ID && a.Direction == b.Direction && a.Domain == b.Domain && a.Latency == b.Latency && a.Drift == b.Drift && a.Jitter == b.Jitter
	return numbers && a.Name == b.Name && slices.EqualFunc(a.Boxes, b.Boxes, sameBox)
}

func sameAct(a, b api.Act) bool {
	numbers := a.At == b.At && a.Kind == b.Kind && a.Device == b.Device && a.ID == b.ID && a.N == b.N
	return numbers && sameRequest(a.Request, b.Request) && sameDescriptor(a.Descriptor, b.Descriptor) && slices.Equal(a.Clock.Segments, b.Clock.Segments)
}

func unsigned(n uint64) string { return strconv.FormatUint(n, 10) }

// plugWords returns the words for a device and its clock.
func plugWords(a api.Act) []string {
	b, _ := descriptor.Encode(a.Descriptor)
	l := []string{"plug", string(b)}
	for _, s := range a.Clock.Segments {
		l = append(l, words.Format(int(s.From)), words.Format(int(s.Rate.Num)), words.Format(int(s.Rate.Den)))
	}
	return l
}

// sendWords returns the words for a request.
func sendWords(a api.Act) []string {
	s, _ := protocol.Format(a.Request)
	l, _ := words.Split(s)
	return slices.Concat([]string{"send"}, l)
}

// actWords returns the words of an act; for one that no line has, they are those of another act, or of none.
func actWords(a api.Act) []string {
	switch a.Kind {
	case api.ActSend:
		return sendWords(a)
	case api.ActPlug:
		return plugWords(a)
	case api.ActUnplug:
		return []string{"unplug", unsigned(a.Device)}
	case api.ActDie:
		return []string{"die", words.Format(a.ID)}
	case api.ActFeed:
		return []string{"feed", words.Format(a.ID), words.Format(a.N)}
	}
	return []string{"boot"}
}

// Format returns the lines of acts.
func Format(l []api.Act) (string, api.Errno) {
	if len(l) > api.MaxActs {
		return "", api.ErrLimit
	}
	var b strings.Builder
	for _, a := range l {
		text, e := words.Join(slices.Concat([]string{words.Format(a.At)}, actWords(a)))
		if e != api.OK {
			return "", api.ErrInvalid
		}
		b.WriteString(text)
		b.WriteByte('\n')
	}
	back, _, e := parse(b.String())
	if e != api.OK || !slices.EqualFunc(back, l, sameAct) {
		return "", api.ErrInvalid
	}
	if b.Len() > api.MaxText {
		return "", api.ErrLimit
	}
	return b.String(), api.OK
}

// Digest returns the hash of a block.
func Digest(b api.Block) uint64 {
	bytes := wire.Put32(nil, uint32(b.Channels))
	for _, s := range b.Data {
		bytes = append(bytes, wire.Put32(nil, uint32(s))...)
	}
	return wire.Hash(bytes)
}

// refusals counts the answers with an error.
func refusals(l []api.Answer) int {
	n := 0
	for _, a := range l {
		if a.Code != api.OK {
			n++
		}
	}
	return n
}

// Report returns what happened in a history, as lines of numbers.
func Report(h api.History) string {
	var b strings.Builder
	write := func(indent string, numbers ...string) {
		b.WriteString(indent)
		b.WriteString(strings.Join(numbers, " "))
		b.WriteByte('\n')
	}
	for i, m := range h.Moments {
		write("", words.Format(i), words.Format(refusals(m.Answers)), words.Format(len(m.Result.Glitches)))
		for _, p := range m.Result.Played {
			write("  ", unsigned(p.Device), unsigned(Digest(p.Mixed)), unsigned(Digest(p.Block)), words.Format(p.Lost), words.Format(p.Missing))
		}
		for _, x := range m.Result.Heard {
			write("  ", words.Format(x.Stream), words.Format(x.State), unsigned(x.Device), words.Format(x.Missing), words.Format(x.Latency), words.Format(x.Granted))
		}
	}
	return b.String()
}
