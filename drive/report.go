package drive

import (
	"strconv"

	"fourwatch/api"
	"fourwatch/fix"
)

// tell puts texts behind what is told so far.
func (p *player) tell(texts ...string) {
	for _, text := range texts {
		p.told.WriteString(text)
	}
}

// report tells a report, a line.
func (p *player) report(r api.Report) {
	p.tell("node ", strconv.Itoa(r.Node), " frame ", strconv.Itoa(r.Frame))
	for axis, used := range r.Used {
		p.tell(blank, fix.Text(used), ">", fix.Text(r.Place[axis]))
	}
	p.tell(blank, strconv.FormatInt(int64(r.Digest), 16))
	if !r.Strong {
		p.tell(" weak")
	}
	for node, in := range r.In {
		if !in {
			p.tell(" out", strconv.Itoa(node))
		}
	}
	p.tell(lineEnd)
}
