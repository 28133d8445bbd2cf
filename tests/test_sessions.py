"""[K1] to [K4]: sessions, in which messages are sent while links are lost, closed, opened and added."""

import copy
import itertools
import random
import unittest

from allknow.errors import KnowError
from allknow.networks import Network, NoLink, NoMessage, NoNode
from allknow.node_sets import deficient_sets, first_deficient
from allknow.schedules import first_schedule
from allknow.sessions import BadEvent, Rejected, Session, replayed
from allknow.spans import BadParity
from allknow.texts import read_network
from tests import reference
from tests.samples import DEFICIENT, FEASIBLE, GREATEST, TEXTS, facts, small_network

EXAMPLE = read_network("2: a, b | | ; AB, AB, BC, AC")
PAIR = read_network("1: a | ; AB")
SPARE = read_network("2: a, ab | b | ; AB, BA, AC, BC, CA, AB")

LENGTHS = {"sent": 4, "lost": 2, "closed": 2, "opened": 2, "learned": 3, "added": 2}
OTHER_NODES = ("", "D", "a", "AB", " ", "BA", "ABC", "1", "Z")
NO_PARITIES = ("ba", "aa", "c", "h", "A", " ", "a ", "ab ", "1", "\u00e4", "abc")
NO_LINKS = ("", "A", "AA", "AD", "DA", "ab", "ABC", "A B", " AB", "AB ", "A,B", "01")


class Model:
    """A session told anew: everything is copied at each event, and worked out by the reference."""

    def __init__(self, network):
        self.variables = network.variables
        self.own = {node: list(network.messages(node)) for node in network.node_letters()}
        self.had = {node: [(node, index) for index in range(len(row))] for node, row in self.own.items()}
        self.links = list(network.links)
        self.words = ["free"] * len(self.links)

    def rows(self):
        return {node: [self.own[origin][index] for origin, index in row] for node, row in self.had.items()}

    def free(self):
        return {number: self.links[number] for number, word in enumerate(self.words) if word == "free"}

    def due(self, event, recorded):
        """The error that is due first, with what it tells, or None."""
        if len(event) == 0 or event[0] not in LENGTHS:
            return (BadEvent, "word")
        if len(event) != LENGTHS[event[0]]:
            return (BadEvent, "length")
        found = {"sent": self.sent_error, "learned": self.learned_error, "added": self.added_error}.get(
            event[0], lambda link: self.link_error(event[0], link))(*event[1:])
        return found or ((BadEvent, "full") if recorded >= 60 else None)

    def sent_error(self, link, origin, index):
        if link not in range(len(self.links)):
            return (NoLink, None)
        if origin not in self.own:
            return (NoNode, None)
        if index not in range(len(self.own[origin])):
            return (NoMessage, None)
        sender, receiver = self.links[link]
        if self.words[link] != "free":
            return (BadEvent, self.words[link])
        if (origin, index) not in self.had[sender]:
            return (BadEvent, "missing")
        known = self.own[origin][index] in reference.sums(tuple(self.rows()[receiver]))
        return (BadEvent, "known") if known else None

    def link_error(self, word, link):
        if link not in range(len(self.links)):
            return (NoLink, None)
        if word == "opened":
            return None if self.words[link] == "closed" else (BadEvent, "open")
        return None if self.words[link] == "free" else (BadEvent, self.words[link])

    def learned_error(self, node, message):
        if node not in self.own:
            return (NoNode, None)
        if message not in reference.parities("abcdef"[:self.variables])[1:]:
            return (BadParity, message)
        return (BadEvent, "many") if len(self.own[node]) == 4 else None

    def added_error(self, link):
        if link not in [one + other for one, other in itertools.permutations(self.own, 2)]:
            return (NoLink, None)
        return (BadEvent, "many") if len(self.links) == 16 else None

    def after(self, event):
        other = copy.deepcopy(self)
        word = event[0]
        if word == "sent":
            other.words[event[1]] = "used"
            other.had[self.links[event[1]][1]].append((event[2], event[3]))
        elif word == "learned":
            other.had[event[1]].append((event[1], len(other.own[event[1]])))
            other.own[event[1]].append(event[2])
        elif word == "added":
            other.links.append(event[1])
            other.words.append("free")
        else:
            other.words[event[1]] = "free" if word == "opened" else word
        return other

    def facts(self):
        rows, links = self.rows(), self.free()
        return {nodes: reference.set_facts(nodes, rows, links) for nodes in reference.node_sets(rows)}

    def remaining(self):
        told = self.facts()
        if any(row[4] for row in told.values()):
            return None
        return sum(told[node][1] for node in self.own)

    def first_deficient(self):
        return next((nodes for nodes, row in self.facts().items() if row[4]), None)

    def possible(self):
        every = [("sent", link, origin, index) for link in self.free() for origin in self.own
                 for index in range(len(self.own[origin]))]
        return [event for event in every if self.due(event, 0) is None]

    def next_transmission(self):
        return next((event[1:] for event in self.possible() if self.after(event).first_deficient() is None), None)

    def can_lose(self, link):
        links = {number: text for number, text in self.free().items() if number != link}
        return reference.suffices(self.rows(), links)

    def network(self):
        return (self.variables, tuple(tuple(row) for row in self.own.values()), tuple(self.links))


def told_by(session):
    """All that a session tells."""
    letters = session.network().node_letters()
    every = reference.parities(session.network().variable_letters())
    return (session.remaining(), session.first_deficient(), session.next_transmission(), session.links(),
            facts(session.network()), session.journal(), tuple(session.holdings(node) for node in letters),
            tuple(session.knows(node, parity) for node in letters for parity in every),
            tuple(session.can_lose(link) for link in range(len(session.links()))))


def told_by_model(model, journal):
    every = reference.parities("abcdef"[:model.variables])
    rows = model.rows()
    return (model.remaining(), model.first_deficient(), model.next_transmission(), tuple(model.words),
            model.network(), tuple(journal), tuple(tuple(row) for row in model.had.values()),
            tuple(parity in reference.sums(tuple(rows[node])) for node in rows for parity in every),
            tuple(model.can_lose(link) for link in range(len(model.links))))


def some_event(chance, model):
    """An event that often can take place."""
    nodes = list(model.own)
    links = list(range(len(model.links))) or [0]
    word = chance.choice(("sent", "sent", "sent", "lost", "closed", "opened", "opened", "learned", "added"))
    if word == "sent":
        possible = model.possible()
        if possible and chance.random() < 0.7:
            return chance.choice(possible)
        link = chance.choice(links + [-1])
        if 0 <= link < len(model.links) and model.had[model.links[link][0]] and chance.random() < 0.6:
            return (word, link) + chance.choice(model.had[model.links[link][0]])
        return (word, link, chance.choice(nodes), chance.randint(-1, 4))
    if word == "learned":
        return (word, chance.choice(nodes), chance.choice(("a", "b", "ab", "a", "ab", "c", "ba", "")))
    if word == "added":
        return (word, chance.choice([one + other for one, other in itertools.permutations(nodes, 2)] + ["AA"]))
    return (word, chance.choice(links + [len(links)]))


def error_of(call):
    """The class of the error that a call raises, with what it tells, or None."""
    try:
        call()
    except KnowError as error:
        return (type(error), vars(error).get("reason", vars(error).get("text")))
    return None


class WithSessions(unittest.TestCase):
    def refused(self, session, event, kind, told=None):
        """An event is refused, as a tuple and as a list, and nothing changes."""
        before = told_by(session)
        for one in (tuple(event), list(event)):
            with self.subTest(event=event):
                self.assertEqual(error_of(lambda: session.record(one)), (kind, told))
                self.assertEqual(told_by(session), before)


class Examples(WithSessions):
    def test_the_example_of_the_document(self):
        session = Session(PAIR)
        self.assertEqual(session.remaining(), 1)
        self.assertEqual(session.next_transmission(), (0, "A", 0))
        self.assertIs(session.can_lose(0), False)
        self.assertEqual(session.record(("sent", 0, "A", 0)), 0)
        self.assertEqual(session.remaining(), 0)
        self.assertIs(session.undo(), True)
        self.assertIsNone(session.record(("lost", 0)))
        self.assertEqual(session.first_deficient(), "B")
        self.assertEqual(session.record(("added", "AB")), 1)
        self.assertEqual(session.next_transmission(), (1, "A", 0))

    def test_the_others_for_the_same_session(self):
        session = replayed(PAIR, [["lost", 0], ["added", "AB"]])
        self.assertEqual(session.links(), ("lost", "free"))
        self.assertEqual(session.journal(), (("lost", 0), ("added", "AB")))
        self.assertEqual(facts(session.network()), (1, (("a",), ()), ("AB", "AB")))
        self.assertEqual(session.record(["sent", 1, "A", 0]), 0)
        self.assertEqual(session.holdings("B"), (("A", 0),))
        self.assertIs(session.knows("B", "a"), True)
        self.assertIsNone(session.next_transmission())
        self.assertIsNone(session.first_deficient())
        self.assertIs(session.can_lose(0), True)
        self.assertIs(session.can_lose(1), True)

    def test_a_new_session(self):
        for text in FEASIBLE + DEFICIENT + TEXTS + GREATEST:
            network = read_network(text)
            session = Session(network)
            schedule = first_schedule(network)
            with self.subTest(text=text):
                self.assertEqual(session.remaining(), None if schedule is None else len(schedule))
                self.assertEqual(session.first_deficient(), first_deficient(network))
                self.assertEqual(session.next_transmission(), schedule[0] if schedule else None)
                self.assertEqual(session.links(), ("free",) * len(network.links))
                self.assertEqual(facts(session.network()), facts(network))
                self.assertEqual(session.journal(), ())
                self.assertIs(session.undo(), False)


class Events(WithSessions):
    def in_state(self, word):
        """A session whose link 0 is so."""
        before = {"free": (), "used": (("sent", 0, "A", 0),), "lost": (("lost", 0),), "closed": (("closed", 0),)}
        return replayed(SPARE, before[word])

    def test_each_event_in_each_state_of_a_link(self):
        for state in ("free", "used", "lost", "closed"):
            for event, word in ((("sent", 0, "A", 1), "used"), (("lost", 0), "lost"), (("closed", 0), "closed")):
                session = self.in_state(state)
                self.assertEqual(session.links(), (state,) + ("free",) * 5)
                if state == "free":
                    self.assertEqual(session.record(event), session.remaining())
                    self.assertEqual(session.links(), (word,) + ("free",) * 5)
                else:
                    self.refused(session, event, BadEvent, state)
            session = self.in_state(state)
            if state == "closed":
                self.assertEqual(session.record(("opened", 0)), 3)
                self.assertEqual(session.links(), ("free",) * 6)
                self.assertEqual(session.record(("lost", 0)), session.remaining())
            else:
                self.refused(session, ("opened", 0), BadEvent, "open")

    def test_learned_and_added_in_each_state_of_a_link(self):
        for state in ("free", "used", "lost", "closed"):
            session = self.in_state(state)
            session.record(("learned", "C", "ab"))
            session.record(["added", "CB"])
            self.assertEqual(session.links(), (state,) + ("free",) * 6)
            self.assertEqual(session.network().nodes[2], ("ab",))
            self.assertEqual(session.network().links, SPARE.links + ("CB",))

    def test_wrong_words(self):
        session = Session(SPARE)
        for event in ((), ("",), ("send", 0, "A", 0), ("Sent", 0, "A", 0), ("lost ", 0), ("free", 0), ("used", 0),
                      ("open", 0), (0,), (0, "lost"), (None, 0), (True, 0), ("los", 0), ("learn", "A", "a"), (("lost",), 0),
                      (["lost"], 0), ("lostclosed", 0), ("s", 0, "A", 0)):
            self.refused(session, event, BadEvent, "word")

    def test_wrong_lengths(self):
        session = Session(SPARE)
        elements = {"sent": (0, "A", 0, 0, 0), "lost": (0, 0, 0, 0), "closed": (0, 0, 0, 0), "opened": (0, 0, 0, 0),
                    "learned": ("A", "a", "a", "a"), "added": ("AB", "AB", "AB", "AB")}
        for word, row in elements.items():
            for length in range(len(row) + 1):
                if length + 1 != LENGTHS[word]:
                    self.refused(session, (word,) + row[:length], BadEvent, "length")
        # Ahead of what is wrong with the elements.
        self.refused(session, ("lost", 99, 0), BadEvent, "length")
        self.refused(session, ("sent", -1, "Z"), BadEvent, "length")
        self.refused(session, ("learned", "Z", "z", 1), BadEvent, "length")

    def test_links_nodes_and_messages_that_there_are_not(self):
        session = Session(SPARE)
        for link in (-1, -6, 6, 100):
            for word in ("lost", "closed", "opened"):
                self.refused(session, (word, link), NoLink)
            self.refused(session, ("sent", link, "A", 0), NoLink)
            self.refused(session, ("sent", link, "Z", 9), NoLink)
        for node in OTHER_NODES:
            self.refused(session, ("sent", 0, node, 9), NoNode)
            self.refused(session, ("learned", node, "ba"), NoNode)
        for index in (-1, -2, 2, 100):
            self.refused(session, ("sent", 0, "A", index), NoMessage)
        self.refused(session, ("sent", 2, "C", 0), NoMessage)
        for text in NO_PARITIES + ("",):
            self.refused(session, ("learned", "A", text), BadParity, text)
        for text in NO_LINKS:
            self.refused(session, ("added", text), NoLink)
        self.refused(Session(read_network("1: a ;")), ("added", "AB"), NoLink)

    def test_missing_and_known(self):
        session = Session(SPARE)
        self.refused(session, ("sent", 3, "A", 0), BadEvent, "missing")
        self.refused(session, ("sent", 0, "B", 0), BadEvent, "missing")
        session.record(("sent", 0, "A", 0))
        # B has b and a now, so ab is known, too.
        self.refused(session, ("sent", 5, "A", 1), BadEvent, "known")
        self.refused(session, ("sent", 5, "A", 0), BadEvent, "known")
        self.refused(session, ("sent", 1, "B", 0), BadEvent, "known")
        session.record(("sent", 3, "A", 0))
        self.refused(session, ("sent", 4, "A", 0), BadEvent, "known")
        self.refused(session, ("sent", 2, "A", 0), BadEvent, "known")

    def test_the_first_reason_where_two_hold(self):
        session = replayed(SPARE, (("sent", 0, "A", 0), ("lost", 3), ("closed", 4)))
        # The state of the link, ahead of what is missing or known.
        self.refused(session, ("sent", 0, "A", 0), BadEvent, "used")
        self.refused(session, ("sent", 0, "B", 0), BadEvent, "used")
        self.refused(session, ("sent", 3, "A", 1), BadEvent, "lost")
        self.refused(session, ("sent", 4, "A", 0), BadEvent, "closed")
        # Missing ahead of known: A can derive b, and B could send its own b, but C has nothing.
        self.refused(replayed(SPARE, ()), ("sent", 4, "B", 0), BadEvent, "missing")
        self.refused(session, ("sent", 5, "B", 0), BadEvent, "missing")
        # What there is not, ahead of the state of the link.
        self.refused(session, ("sent", 0, "D", 0), NoNode)
        self.refused(session, ("sent", 3, "A", 2), NoMessage)
        self.refused(session, ("sent", 4, "C", 0), NoMessage)

    def test_many_messages(self):
        session = Session(SPARE)
        session.record(("learned", "A", "b"))
        session.record(("learned", "A", "b"))
        self.assertEqual(session.network().nodes[0], ("a", "ab", "b", "b"))
        self.refused(session, ("learned", "A", "a"), BadEvent, "many")
        self.refused(session, ("learned", "A", "ba"), BadParity, "ba")
        self.refused(session, ("learned", "A", ""), BadParity, "")
        self.assertIs(session.undo(), True)
        session.record(("learned", "A", "a"))
        self.refused(session, ("learned", "A", "a"), BadEvent, "many")
        # What a node received does not count.
        session = replayed(SPARE, (("sent", 0, "A", 0), ("learned", "B", "a"), ("learned", "B", "a"), ("learned", "B", "a")))
        self.assertEqual(len(session.holdings("B")), 5)
        self.refused(session, ("learned", "B", "a"), BadEvent, "many")

    def test_many_links(self):
        session = Session(SPARE)
        for count in range(6, 16):
            self.assertEqual(len(session.links()), count)
            session.record(("added", "CB"))
        self.refused(session, ("added", "CB"), BadEvent, "many")
        self.refused(session, ("added", "CC"), NoLink)
        session.record(("lost", 15))
        # Links that are lost are there all the same.
        self.refused(session, ("added", "CB"), BadEvent, "many")
        self.refused(Session(read_network(GREATEST[0])), ("added", "AB"), BadEvent, "many")

    def test_what_was_learned_can_be_sent(self):
        session = Session(EXAMPLE)
        session.record(("sent", 0, "A", 1))
        self.assertEqual(session.record(("learned", "B", "ab")), 2)
        self.assertEqual(session.holdings("B"), (("A", 1), ("B", 0)))
        self.assertIs(session.knows("B", "a"), True)
        self.refused(session, ("sent", 1, "A", 0), BadEvent, "known")
        self.refused(session, ("sent", 3, "B", 0), BadEvent, "missing")
        self.assertEqual(session.record(("sent", 2, "B", 0)), 1)
        self.assertEqual(session.holdings("C"), (("B", 0),))
        self.assertEqual(session.next_transmission(), (3, "A", 0))

    def test_a_message_that_makes_the_rank_greater(self):
        session = Session(read_network("2: a | ; AB, BA"))
        self.assertEqual(session.remaining(), 1)
        self.assertEqual(session.record(("learned", "B", "b")), 2)
        self.assertIs(session.undo(), True)
        self.assertIsNone(session.record(("learned", "A", "ab")))
        self.assertEqual(session.first_deficient(), "B")
        self.assertIsNone(session.next_transmission())
        self.assertEqual(session.record(("added", "AB")), 2)


class Sixty(WithSessions):
    def sixty(self):
        return [("closed" if number % 2 == 0 else "opened", number % 6 // 2) for number in range(60)]

    def test_sixty_events_and_one_more(self):
        session = replayed(SPARE, self.sixty())
        self.assertEqual(len(session.journal()), 60)
        for event in (("closed", 0), ("sent", 0, "A", 0), ("learned", "A", "a"), ("added", "AB")):
            self.refused(session, event, BadEvent, "full")

    def test_other_errors_come_ahead_of_full(self):
        session = replayed(SPARE, self.sixty())
        self.refused(session, ("opened", 0), BadEvent, "open")
        self.refused(session, ("closed",), BadEvent, "length")
        self.refused(session, (), BadEvent, "word")
        self.refused(session, ("lost", 6), NoLink)
        self.refused(session, ("learned", "A", ""), BadParity, "")
        self.refused(session, ("sent", 4, "A", 0), BadEvent, "missing")
        many = replayed(read_network("1: a, a, a, a | ;" + ",".join([" AB"] * 16)), self.sixty())
        self.refused(many, ("learned", "A", "a"), BadEvent, "many")
        self.refused(many, ("added", "AB"), BadEvent, "many")

    def test_one_more_behind_an_undo(self):
        session = replayed(SPARE, self.sixty())
        self.assertIs(session.undo(), True)
        self.assertEqual(len(session.journal()), 59)
        session.record(("added", "AB"))
        self.assertEqual(len(session.journal()), 60)
        self.refused(session, ("added", "AB"), BadEvent, "full")
        # Events that were refused, and those that were undone, do not count.
        for _ in range(60):
            self.assertIs(session.undo(), True)
        self.assertIs(session.undo(), False)
        self.assertEqual(told_by(session), told_by(Session(SPARE)))

    def test_replayed(self):
        events = self.sixty()
        for told in (events + [("closed", 0)], events + [("added", "AB"), ("lost", 99)]):
            with self.assertRaises(Rejected) as caught:
                replayed(SPARE, told)
            self.assertEqual(caught.exception.number, 60)


class Undone(WithSessions):
    def test_each_kind_of_event(self):
        first = (("closed", 1), ("sent", 0, "A", 0))
        for event in (("sent", 2, "A", 1), ("lost", 2), ("closed", 2), ("opened", 1), ("learned", "B", "a"), ("added", "CB")):
            session = replayed(SPARE, first)
            before = told_by(session)
            session.record(event)
            self.assertNotEqual(told_by(session), before)
            self.assertIs(session.undo(), True)
            self.assertEqual(told_by(session), before)
            session.record(list(event))
            self.assertEqual(session.journal(), first + (event,))

    def test_to_the_beginning_and_further(self):
        session = Session(SPARE)
        events = (("sent", 0, "A", 0), ("learned", "C", "b"), ("added", "CB"), ("closed", 6), ("opened", 6), ("lost", 1))
        told = [told_by(session)]
        for event in events:
            session.record(event)
            told.append(told_by(session))
        for before in reversed(told[:-1]):
            self.assertIs(session.undo(), True)
            self.assertEqual(told_by(session), before)
        for _ in range(3):
            self.assertIs(session.undo(), False)
            self.assertEqual(told_by(session), told[0])
        session.record(events[0])
        self.assertEqual(told_by(session), told[1])

    def test_a_link_that_was_added_is_gone(self):
        session = replayed(PAIR, (("lost", 0), ("added", "AB")))
        session.undo()
        self.refused(session, ("sent", 1, "A", 0), NoLink)
        session = replayed(PAIR, (("learned", "B", "a"),))
        session.undo()
        self.refused(session, ("sent", 0, "B", 0), NoMessage)


class AgainstTheModel(WithSessions):
    def test_by_chance(self):
        chance = random.Random(131)
        networks = [small_network(chance, 4, 2, 4, 6) for _ in range(100)] + [SPARE, EXAMPLE, PAIR] * 5
        seen = set()
        for network in networks:
            session, models, journal = Session(network), [Model(network)], []
            for _ in range(30):
                if chance.random() < 0.12:
                    self.assertIs(session.undo(), len(models) > 1)
                    models, journal = models[:max(1, len(models) - 1)], journal[:-1]
                event = some_event(chance, models[-1])
                due = models[-1].due(event, len(journal))
                seen.add((event[0], due if due is None else due[1] if due[0] is BadEvent else due[0]))
                with self.subTest(network=facts(network), journal=journal, event=event):
                    if due is None:
                        models.append(models[-1].after(event))
                        journal.append(event)
                        told = chance.choice((tuple, list))(event)
                        self.assertEqual(session.record(told), models[-1].remaining())
                    else:
                        self.assertEqual(error_of(lambda: session.record(event)), due)
                    self.assertEqual(told_by(session), told_by_model(models[-1], journal))
            self.assertEqual(told_by(replayed(network, session.journal())), told_by(session))
        for what in (("sent", None), ("sent", "used"), ("sent", "lost"), ("sent", "closed"), ("sent", "missing"),
                     ("sent", "known"), ("lost", "used"), ("closed", "lost"), ("opened", None), ("opened", "open"),
                     ("learned", "many"), ("added", None), ("sent", NoMessage)):
            self.assertIn(what, seen)

    def test_next_transmissions_to_the_end(self):
        chance = random.Random(132)
        for text in FEASIBLE + GREATEST[:4]:
            network = read_network(text)
            session = Session(network)
            sent = []
            needed = session.remaining()
            while session.next_transmission() is not None:
                sent.append(session.next_transmission())
                needed -= 1
                self.assertEqual(session.record(("sent",) + sent[-1]), needed)
            self.assertEqual(needed, 0)
            self.assertEqual(tuple(sent), first_schedule(network))
            # Whichever transmissions are chosen that leave no set deficient, they are just as many.
            while session.undo():
                pass
            if len(network.links) < 10:
                model, count = Model(network), 0
                fitting = self.fitting(model)
                while fitting:
                    event = chance.choice(fitting)
                    model, count = model.after(event), count + 1
                    self.assertEqual(session.record(event), len(sent) - count)
                    fitting = self.fitting(model)
                self.assertEqual(count, len(sent))

    def fitting(self, model):
        return [event for event in model.possible() if model.after(event).first_deficient() is None]

    def test_can_lose_exactly_where_losing_does_no_harm(self):
        chance = random.Random(133)
        for _ in range(60):
            network = small_network(chance, 4, 2, 2, 7)
            session = Session(network)
            for link, word in enumerate(session.links()):
                if chance.random() < 0.2:
                    session.record(("closed", link))
            for link, word in enumerate(session.links()):
                expected = session.remaining() is not None
                if word == "free":
                    expected = session.record(("lost", link)) is not None
                    session.undo()
                self.assertIs(session.can_lose(link), expected)
        for link in (-1, 4, 100):
            self.assertRaises(NoLink, Session(EXAMPLE).can_lose, link)

    def test_the_network_of_a_session_is_another_one_than_the_present_one(self):
        session = replayed(EXAMPLE, (("sent", 0, "A", 0), ("lost", 2)))
        self.assertEqual(facts(session.network()), facts(EXAMPLE))
        self.assertEqual(deficient_sets(session.network()), ())
        self.assertEqual(session.first_deficient(), "C")


class Told(WithSessions):
    def test_wrong_arguments(self):
        session = Session(EXAMPLE)
        for node in OTHER_NODES:
            self.assertRaises(NoNode, session.holdings, node)
            for parity in ("a", "", "ba", "c"):
                self.assertRaises(NoNode, session.knows, node, parity)
        for text in NO_PARITIES:
            with self.assertRaises(BadParity) as caught:
                session.knows("A", text)
            self.assertEqual(caught.exception.text, text)
        self.assertIs(session.knows("C", ""), True)
        self.assertIs(session.knows("A", "ab"), True)
        self.assertIs(session.knows("C", "ab"), False)

    def test_what_was_returned_does_not_change_later(self):
        session = Session(SPARE)
        session.record(("sent", 0, "A", 0))
        holdings, network, journal, links = session.holdings("B"), session.network(), session.journal(), session.links()
        session.record(("learned", "B", "ab"))
        session.record(("added", "AB"))
        session.record(("sent", 2, "A", 0))
        self.assertEqual(holdings, (("B", 0), ("A", 0)))
        self.assertEqual(facts(network), facts(SPARE))
        self.assertEqual(journal, (("sent", 0, "A", 0),))
        self.assertEqual(links, ("used",) + ("free",) * 5)
        later = session.network()
        for _ in range(3):
            session.undo()
        self.assertEqual(later.links, SPARE.links + ("AB",))
        self.assertIsInstance(later, Network)

    def test_an_event_that_is_changed_later(self):
        session = Session(SPARE)
        event = ["sent", 0, "A", 0]
        session.record(event)
        event[1] = 5
        event.clear()
        self.assertEqual(session.journal(), (("sent", 0, "A", 0),))
        session.record(("closed", 1))
        self.assertIs(session.undo(), True)
        self.assertEqual(session.links(), ("used",) + ("free",) * 5)

    def test_two_sessions_of_one_network(self):
        first, second = Session(SPARE), Session(SPARE)
        first.record(("sent", 0, "A", 0))
        first.record(("learned", "A", "b"))
        self.assertEqual(told_by(second), told_by(Session(SPARE)))
        self.assertEqual(facts(SPARE), facts(read_network("2: a, ab | b | ; AB, BA, AC, BC, CA, AB")))

    def test_replayed_from_the_journal(self):
        events = [["sent", 0, "A", 0], ("closed", 3), ["learned", "C", "ab"], ("added", "CB"), ["opened", 3], ("lost", 2)]
        session = Session(SPARE)
        for event in events:
            session.record(event)
        again = replayed(SPARE, session.journal())
        self.assertEqual(told_by(again), told_by(session))
        self.assertEqual(told_by(replayed(SPARE, events)), told_by(session))
        self.assertEqual(told_by(replayed(SPARE, ())), told_by(Session(SPARE)))
        self.assertEqual(events[0], ["sent", 0, "A", 0])

    def test_rejected(self):
        good = [("sent", 0, "A", 0), ("lost", 1)]
        for wrong in ((), ("x",), ("lost",), ("lost", 99), ("sent", 0, "A", 0), ("sent", 5, "Z", 0), ("sent", 5, "A", 9),
                      ("learned", "Z", "a"), ("learned", "A", "ba"), ("added", "AA"), ("opened", 0)):
            for at in range(3):
                events = good[:at] + [wrong] + good[at:] + [("lost", 99)]
                if wrong == ("sent", 0, "A", 0) and at == 0:
                    continue
                with self.subTest(wrong=wrong, at=at):
                    with self.assertRaises(Rejected) as caught:
                        replayed(SPARE, events)
                    self.assertEqual(caught.exception.number, at)


if __name__ == "__main__":
    unittest.main()
