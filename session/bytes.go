package session

import (
	"soundservice/api"
	"soundservice/wire"
)

// Encode returns the bytes of a record.
func Encode(r api.Record) ([]byte, api.Errno) {
	if !Proper(r) {
		return nil, api.ErrInvalid
	}
	var b []byte
	put16 := func(n int) { b = wire.Put16(b, uint16(n)) }
	put64 := func(n uint64) { b = wire.Put64(b, n) }
	put16(r.Kind)
	put64(uint64(r.ID))
	b, _ = wire.PutText(b, r.Role)
	put16(r.Direction)
	put16(r.Channels)
	put64(uint64(r.Rate))
	put64(uint64(r.Latency))
	put16(r.N)
	put64(r.Device)
	put16(len(r.Set))
	for _, id := range r.Set {
		put64(id)
	}
	put16(len(r.Text))
	return append(b, r.Text...), api.OK
}

// reader reads bytes up to the first error, which it keeps.
type reader struct {
	bytes []byte
	at    int
	err   api.Errno
}

// field reads a field with a function that reads its type; after an error it is zero.
func field[T any](r *reader, get func(b []byte, at int) (T, int, api.Errno)) T {
	var none T
	if r.err != api.OK {
		return none
	}
	x, at, e := get(r.bytes, r.at)
	r.at, r.err = at, e
	return x
}

func (r *reader) small() int { return int(field(r, wire.Get16)) }

func (r *reader) large() uint64 { return field(r, wire.Get64) }

func (r *reader) set() []uint64 {
	var set []uint64
	for n := r.small(); n > 0 && r.err == api.OK; n-- {
		set = append(set, r.large())
	}
	return set
}

// text reads a number of bytes and these.
func (r *reader) text() string {
	n := r.small()
	return field(r, func(b []byte, at int) (string, int, api.Errno) {
		if len(b)-at < n {
			return "", 0, api.ErrShort
		}
		return string(b[at : at+n]), at + n, api.OK
	})
}

// Decode returns the record with these bytes.
func Decode(b []byte) (api.Record, api.Errno) {
	in := &reader{bytes: b}
	r := api.Record{Kind: in.small(), ID: int(in.large())}
	r.Role = field(in, wire.GetText)
	r.Direction, r.Channels = in.small(), in.small()
	r.Rate, r.Latency = int(in.large()), int(in.large())
	r.N = in.small()
	r.Device = in.large()
	r.Set = in.set()
	r.Text = in.text()
	if in.err != api.OK || in.at != len(b) || !Proper(r) {
		return api.Record{}, api.ErrSyntax
	}
	return r, api.OK
}
