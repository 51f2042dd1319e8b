// Package rules holds the project against what all layers have in common: what is given, and the language.
package rules

import (
	"iter"

	"odograph/admit"
	"odograph/apart"
	"odograph/api"
	"odograph/bits"
	"odograph/box"
	"odograph/brake"
	"odograph/conf"
	"odograph/crc"
	"odograph/frame"
	"odograph/fuse"
	"odograph/grade"
	"odograph/image"
	"odograph/judge"
	"odograph/limit"
	"odograph/line"
	"odograph/link"
	"odograph/mail"
	maker "odograph/make"
	"odograph/nav"
	"odograph/num"
	"odograph/packet"
	"odograph/place"
	"odograph/pulse"
	"odograph/ratio"
	"odograph/roll"
	"odograph/route"
	"odograph/sense"
	"odograph/span"
	"odograph/spot"
	"odograph/still"
	"odograph/tail"
	"odograph/track"
	"odograph/vote"
	"odograph/watch"
	"odograph/wheel"
	"odograph/wide"
	"odograph/word"
	"odograph/world"
	"odograph/yard"
)

// The calls that the chapters list; a signature that deviates does not compile.
var (
	_ func(a, b int64) (int64, bool) = num.Add
	_ func(a, b int64) (int64, bool) = num.Sub
	_ func(a int64) (int64, bool)    = num.Neg
	_ func(a int64) (int64, bool)    = num.Abs
	_ func(a int64) uint64           = num.Size
	_ func(a, b int64) (int64, bool) = num.Mul
	_ func(a, b int64) int64         = num.AddSat
	_ func(a, b int64) int64         = num.SubSat
	_ func(a, b int64) int64         = num.MulSat
	_ func(x, lo, hi int64) int64    = num.Clamp
	_ func(a, b int64) int64         = num.Mid
	_ func(a int64) int              = num.Sign

	_ func(a, b uint64) wide.U                             = wide.Mul
	_ func(x wide.U, y wide.U) (wide.U, bool)              = wide.U.Add
	_ func(x wide.U, y wide.U) (wide.U, bool)              = wide.U.Sub
	_ func(x wide.U, y wide.U) int                         = wide.U.Cmp
	_ func(x wide.U, n int) wide.U                         = wide.U.Shl
	_ func(x wide.U, n int) wide.U                         = wide.U.Shr
	_ func(x wide.U) int                                   = wide.U.Len
	_ func(x wide.U, d uint64) (wide.U, uint64, api.Errno) = wide.U.Div
	_ func(x wide.U) uint64                                = wide.U.Root

	_ func(a, b, c int64) (int64, api.Errno) = ratio.Floor
	_ func(a, b, c int64) (int64, api.Errno) = ratio.Ceil
	_ func(a, b int64) (int64, api.Errno)    = ratio.Root

	_ func(x int64) span.Span                               = span.At
	_ func(x, far int64) (span.Span, bool)                  = span.Around
	_ func(s span.Span) bool                                = span.Span.Right
	_ func(s span.Span, x int64) bool                       = span.Span.Has
	_ func(s span.Span, t span.Span) bool                   = span.Span.In
	_ func(s span.Span) uint64                              = span.Span.Width
	_ func(s span.Span) int64                               = span.Span.Mid
	_ func(s span.Span, t span.Span) (span.Span, bool)      = span.Span.Add
	_ func(s span.Span, t span.Span) (span.Span, bool)      = span.Span.Sub
	_ func(s span.Span, far int64) (span.Span, bool)        = span.Span.Grow
	_ func(s span.Span, t span.Span) (span.Span, bool)      = span.Span.Meet
	_ func(s span.Span, t span.Span) span.Span              = span.Span.Hull
	_ func(s span.Span, k, by int64) (span.Span, api.Errno) = span.Span.Times

	_ func(l ...span.Span) (span.Span, bool)  = vote.Common
	_ func(l ...span.Span) (span.Span, bool)  = vote.Two
	_ func(f span.Span, l ...span.Span) []int = vote.Strays

	_ func(b []byte) uint16             = crc.Sum
	_ func(sum uint16, b []byte) uint16 = crc.Go
	_ func(b []byte) []byte             = crc.Seal
	_ func(b []byte) ([]byte, bool)     = crc.Open

	_ func(f frame.Frame) ([]byte, api.Errno) = frame.Put
	_ func(b []byte) (frame.Frame, api.Errno) = frame.Get

	_ func(cycle int, list [][]byte) mail.Mail  = mail.Sort
	_ func(m mail.Mail, kind int) (int64, bool) = mail.Mail.Of
	_ func(m mail.Mail) bool                    = mail.Mail.Quiet

	_ func(from, to uint16) int64                                               = pulse.Delta
	_ func(c pulse.Counter, count int64, has bool) (pulse.Counter, int64, bool) = pulse.Counter.Next

	_ func(l []grade.Piece, length int64) api.Errno        = grade.Check
	_ func(l []grade.Piece, at int64) int64                = grade.At
	_ func(l []grade.Piece, s span.Span) (span.Span, bool) = grade.Bounds

	_ func(t track.Track) (api.Errno, int)    = track.Track.Check
	_ func(t track.Track, id int) (int, bool) = track.Track.Find
	_ func(t track.Track) span.Span           = track.Track.Grades
	_ func(t track.Track, a, b int) bool      = track.Track.Follows

	_ func(t track.Track) ([]byte, api.Errno) = image.Pack
	_ func(b []byte) (track.Track, api.Errno) = image.Open

	_ func(c conf.Config) (api.Errno, int)                = conf.Config.Check
	_ func(c conf.Config, g track.Group) int64            = conf.Config.Reach
	_ func(c conf.Config, t track.Track) (api.Errno, int) = conf.Config.Fits
	_ func(c conf.Config) span.Span                       = conf.Config.Circ
	_ func(c conf.Config) span.Span                       = conf.Config.Speeds
	_ func(c conf.Config, r int64) int64                  = conf.Config.Error
	_ func(c conf.Config) (int64, int64)                  = conf.Config.Growth

	_ func(segment int, from int64) route.Set                              = route.Begin
	_ func(r route.Route) []int                                            = route.Route.Path
	_ func(s route.Set, t track.Track, r route.Route) int64                = route.Set.End
	_ func(s route.Set, t track.Track, p span.Span) (route.Set, api.Errno) = route.Set.Grow
	_ func(s route.Set, t track.Track, group int) []int64                  = route.Set.Places
	_ func(s route.Set, t track.Track, p span.Span) (span.Span, bool)      = route.Set.Grades
	_ func(s route.Set, path []int) bool                                   = route.Set.Has

	_ func(d int64, circ span.Span, pulses int64) (span.Span, api.Errno) = sense.Tacho
	_ func(c conf.Config, r int64) span.Span                             = sense.Radar
	_ func(c conf.Config, m int64, grades span.Span) span.Span           = sense.Accel
	_ func(speed, accel span.Span) span.Span                             = sense.From
	_ func(c conf.Config, speed span.Span) span.Span                     = sense.Prior

	_ func(circ, way span.Span, pulses, n int64) (span.Span, bool) = wheel.Learn

	_ func(prior span.Span, three [3]fuse.Sensor, accel fuse.Sensor) fuse.Fused = fuse.Fuse

	_ func(c conf.Config, speed span.Span) bool                                = still.Slow
	_ func(s still.Still, c conf.Config, speed span.Span, fit int) still.Still = still.Still.Next

	_ func(r roll.Roll, c conf.Config, still, command bool, speed span.Span) roll.Roll = roll.Roll.Next

	_ func(pos, speed span.Span) (span.Span, bool)                                          = link.Passage
	_ func(c conf.Config, g track.Group) int64                                              = link.Window
	_ func(c conf.Config, t track.Track, s route.Set, passage span.Span, group int) []int64 = link.Fitting

	_ func(c conf.Config, t track.Track, group int, speed span.Span) place.Place   = place.Reset
	_ func(p place.Place, t track.Track, speed span.Span) (place.Place, api.Errno) = place.Place.Move

	_ func(t track.Track) []int64                                            = brake.Ends
	_ func(t track.Track, ends []int64, s route.Set, at int64) (int64, bool) = brake.Free
	_ func(c conf.Config, free int64) int64                                  = brake.Permitted

	_ func(w watch.Watch, c conf.Config, fit int, conflict, over, accepted bool) watch.Watch = watch.Watch.Next
	_ func(w watch.Watch, on bool, fit int, conflict bool) int                               = watch.Watch.Mode
	_ func(mode int) string                                                                  = watch.Name

	_ func(c conf.Config, img []byte) *nav.Nav                 = nav.New
	_ func(n *nav.Nav) bool                                    = (*nav.Nav).Broken
	_ func(n *nav.Nav, list [][]byte, command bool) nav.Report = (*nav.Nav).Step

	_ func(r nav.Report) string = line.Text

	_ func(l []box.Entry) ([]byte, api.Errno)                             = box.Pack
	_ func(b []byte) ([]box.Entry, api.Errno)                             = box.Open
	_ func(c conf.Config, img []byte, l []box.Entry) iter.Seq[nav.Report] = box.Replay

	_ func(s world.Script) []int64                                    = world.Script.Places
	_ func(t track.Track, route []int, index int) int64               = world.Start
	_ func(t track.Track, route []int, at int64) int64                = world.Grade
	_ func(t track.Track, s world.Script, r world.Read) (int64, bool) = world.Nominal
	_ func(s world.Script, c conf.Config, wheel int) []int64          = world.Script.Counts
	_ func(s world.Script, c conf.Config, t track.Track) []box.Entry  = world.Script.Entries

	_ func(c conf.Config, t track.Track, s world.Script) int = admit.Check

	_ func(c conf.Config, t track.Track, seed uint64, n int) (world.Script, bool) = maker.Make

	_ func(c conf.Config, t track.Track, s world.Script) []nav.Report                         = judge.Run
	_ func(c conf.Config, t track.Track, s world.Script, reports []nav.Report) []judge.Breach = judge.Judge

	_ func(t track.Track, from int64, routes [][]int, pos span.Span) []spot.Spot = spot.Within
	_ func(t track.Track, r nav.Report) ([]spot.Spot, bool)                      = spot.Of
	_ func(l []spot.Spot, segment int) (spot.Spot, bool)                         = spot.Find
	_ func(l []spot.Spot, segment int, at int64) bool                            = spot.Has

	_ func(t track.Track, r nav.Report, length int64) ([]spot.Spot, bool) = tail.Of
	_ func(l []spot.Spot, segment int) bool                               = tail.Clear

	_ func(t track.Track, l []limit.Limit) (api.Errno, int)      = limit.Check
	_ func(l []limit.Limit, segment int, at int64) (int64, bool) = limit.At
	_ func(l []limit.Limit, spots []spot.Spot) (int64, bool)     = limit.Least
	_ func(t track.Track, l []limit.Limit, r nav.Report) int     = limit.Fast

	_ func(r *bits.Row, v uint64, many int) = (*bits.Row).Put
	_ func(r *bits.Row, v int64, many int)  = (*bits.Row).PutSigned
	_ func(r *bits.Row) int                 = (*bits.Row).Len
	_ func(r *bits.Row) []byte              = (*bits.Row).Bytes
	_ func(b []byte) *bits.Reader           = bits.Over
	_ func(r *bits.Reader, many int) uint64 = (*bits.Reader).Get
	_ func(r *bits.Reader, many int) int64  = (*bits.Reader).GetSigned
	_ func(r *bits.Reader) int              = (*bits.Reader).Left
	_ func(r *bits.Reader) bool             = (*bits.Reader).Short

	_ func(p packet.Packet) bool                = packet.Packet.Right
	_ func(r nav.Report) (packet.Packet, bool)  = packet.Of
	_ func(p packet.Packet) ([]byte, api.Errno) = packet.Put
	_ func(b []byte) (packet.Packet, api.Errno) = packet.Get
	_ func(p packet.Packet) span.Span           = packet.Packet.Pos

	_ func(a, b []spot.Spot) []spot.Spot   = apart.Shared
	_ func(a, b []spot.Spot) bool          = apart.Apart
	_ func(a, b []spot.Spot) (int64, bool) = apart.Gap

	_ func(c conf.Config) string                   = word.Text
	_ func(s string) (conf.Config, api.Errno, int) = word.Parse

	_ func(img []byte) (*yard.Yard, api.Errno)                                        = yard.New
	_ func(y *yard.Yard, name string, c conf.Config, length int64) api.Errno          = (*yard.Yard).Enter
	_ func(y *yard.Yard, name string) bool                                            = (*yard.Yard).Leave
	_ func(y *yard.Yard) []string                                                     = (*yard.Yard).Names
	_ func(y *yard.Yard, name string, list [][]byte, command bool) (nav.Report, bool) = (*yard.Yard).Step
	_ func(y *yard.Yard, name string) ([]spot.Spot, bool)                             = (*yard.Yard).Covers
	_ func(y *yard.Yard, a, b string) bool                                            = (*yard.Yard).Apart
	_ func(y *yard.Yard) iter.Seq2[string, string]                                    = (*yard.Yard).Close
	_ func(y *yard.Yard) int                                                          = (*yard.Yard).Many
	_ func(y *yard.Yard) []int                                                        = (*yard.Yard).Free
)

// The types whose fields the chapters list; a conversion takes only the very same fields.
var (
	_ = wide.U(struct{ Hi, Lo uint64 }{})
	_ = span.Span(struct{ Lo, Hi int64 }{})
	_ = frame.Frame(struct {
		Kind, Seq int
		Value     int64
	}{})
	_ = mail.Mail(struct {
		Has                       [6]bool
		Value                     [6]int64
		Bad, Stale, Twice, Beyond int
	}{})
	_ = pulse.Counter(struct {
		Known bool
		Last  uint16
		Sum   int64
	}{})
	_ = grade.Piece(struct{ From, Grade int64 }{})
	_ = track.Segment(struct {
		Length int64
		Pieces []grade.Piece
		Next   []int
	}{})
	_ = track.Group(struct {
		Id, Segment        int
		Offset, Acc, Slack int64
	}{})
	_ = track.Track(struct {
		Segments []track.Segment
		Groups   []track.Group
	}{})
	_ = conf.Config(struct {
		Pulses, CircLo, CircHi int64
		RadBase, RadPart       int64
		AccErr                 int64
		MaxSpeed, MaxAccel     int64
		Antenna                int64
		Still                  int
		StillSpeed             int64
		Roll                   int64
		Timeout                int
		Brake                  int64
	}{})
	_ = route.Route(struct {
		N   int
		Seg [12]int
	}{})
	_ = route.Set(struct {
		From int64
		List []route.Route
	}{})
	_ = fuse.Sensor(struct {
		Fit  bool
		Span span.Span
	}{})
	_ = fuse.Fused(struct {
		Speed           span.Span
		Fit             int
		Clean, Conflict bool
		Slip            [2]int
	}{})
	_ = still.Still(struct {
		Count int
		On    bool
	}{})
	_ = roll.Roll(struct {
		Anchored, On bool
		Moved        span.Span
	}{})
	_ = place.Place(struct {
		On    bool
		Group int
		Pos   span.Span
		Est   int64
		Set   route.Set
	}{})
	_ = watch.Watch(struct {
		Silent, Strife int
		Failed         bool
	}{})
	_ = nav.Report(struct {
		Cycle, Mode, Group        int
		Pos                       span.Span
		Est                       int64
		Speed                     span.Span
		Nominal, Dist             int64
		Routes                    [][]int
		Fit                       int
		Clean, Conflict           bool
		Slip                      [2]int
		Accepted, Fault           bool
		Still, Roll, Over         bool
		Moved                     span.Span
		Permitted                 int64
		Circ                      [2]span.Span
		Bad, Stale, Twice, Beyond int
	}{})
	_ = box.Entry(struct {
		Command bool
		List    [][]byte
	}{})
	_ = world.Read(struct {
		Cycle, Index, Group int
		Point               int64
	}{})
	_ = world.Tick(struct {
		V       int64
		Slip    [2]int64
		Rad     int64
		Acc     int64
		Lost    [4]bool
		Junk    [][]byte
		Command bool
	}{})
	_ = world.Script(struct {
		Route       []int
		Start, V0   int64
		Circ, Phase [2]int64
		Ticks       []world.Tick
		Reads       []world.Read
	}{})
	_ = judge.Breach(struct{ What, Cycle int }{})
	_ = spot.Spot(struct {
		Segment int
		Lo, Hi  int64
	}{})
	_ = limit.Limit(struct {
		Segment         int
		From, To, Speed int64
	}{})
	_ = packet.Packet(struct {
		Cycle, Mode, Group int
		Lo, Hi, Est        int64
		Slow, Fast         int64
		Flags              [7]bool
	}{})
)
