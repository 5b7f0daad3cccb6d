package cluster

import (
	"fourwatch/api"
	"fourwatch/node"
	"fourwatch/wire"
)

// A phase is what a computer does with what it gets, and what it tells the others then.
type phase func(n api.Node, in []api.Message) (api.Node, api.Message)

// A work is a frame at work: the cluster as far as it has come, and what each computer gets next.
type work struct {
	api.Cluster
	bad   int
	lies  []api.Lie // those handed in: they are read while the call lasts
	inbox [api.Nodes][]api.Message
}

// atWork is a frame ahead of its first phase, when nothing is sent yet.
func atWork(c api.Cluster, in api.Input) *work {
	w := &work{Cluster: c, bad: in.Bad, lies: in.Lies}
	for id, n := range c.Nodes {
		// The bad computer goes through no phase, and its list would be the one handed in.
		w.Nodes[id].Verdict.Agree = append([]bool(nil), n.Verdict.Agree...)
	}
	return w
}

// phases are the five of a frame, in their order.
func phases(frame int, read [api.Nodes][api.Axes]int) []phase {
	sense := func(n api.Node, _ []api.Message) (api.Node, api.Message) {
		return node.Sense(n, frame, read[n.Id])
	}
	return []phase{sense, node.Relay, node.Decide, node.Pass, node.Judge}
}

// do has all computers that are not bad go through a phase, and is what each of them tells.
func (w *work) do(p phase) [api.Nodes]api.Message {
	var told [api.Nodes]api.Message
	for id, n := range w.Nodes {
		if id != w.bad {
			w.Nodes[id], told[id] = p(n, w.inbox[id])
		}
	}
	return told
}

// closed has all computers that are not bad end the frame, and is what they put out. What the phase tells is sent to nobody.
func (w *work) closed() []api.Report {
	var reports []api.Report
	w.do(func(n api.Node, in []api.Message) (api.Node, api.Message) {
		after, report := node.Close(n, in)
		reports = append(reports, report)
		return after, api.Message{}
	})
	return reports
}

// send has each computer get next what is sent to it in a phase.
func (w *work) send(number int, told [api.Nodes]api.Message) {
	for to := range w.inbox {
		w.inbox[to] = w.sentTo(to, number, told)
	}
}

// sentTo is what the others send to one in a phase, by sender; the bad one sends its lies, whatever it told.
func (w *work) sentTo(to, number int, told [api.Nodes]api.Message) []api.Message {
	var l []api.Message
	for from, m := range told {
		switch from {
		case to:
		case w.bad:
			l = append(l, w.liesTo(to, number)...)
		default:
			l = append(l, carried(m)...)
		}
	}
	return l
}

// liesTo is what the bad computer sends to one in a phase; what has the name of another one is not heard.
func (w *work) liesTo(to, number int) []api.Message {
	var l []api.Message
	for _, lie := range w.lies {
		if lie.Phase != number || lie.To != to {
			continue
		}
		for _, m := range decoded(lie.Bytes) {
			if m.From == w.bad {
				l = append(l, m)
			}
		}
	}
	return l
}

// carried is a message as it comes out of its bytes, nothing if wire refuses it.
func carried(m api.Message) []api.Message {
	b, errno := wire.Encode(m)
	if errno != api.OK {
		return nil
	}
	return decoded(b)
}

// decoded is the message of bytes, nothing if they are none's.
func decoded(b []byte) []api.Message {
	m, errno := wire.Decode(b)
	if errno != api.OK {
		return nil
	}
	return []api.Message{m}
}
