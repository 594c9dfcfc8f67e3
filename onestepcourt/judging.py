"""The judge: it looks at a ledger afterwards, and trusts nobody."""

from onestepcourt.digests import Book, Digests
from onestepcourt.dockets import Docket
from onestepcourt.histories import History
from onestepcourt.machine import MARKS, first_words
from onestepcourt.showing import edge_of, halves_of, shows_claim, shows_halves, shows_step, start_of


def ledger_of(court, coins, bond, patience):
    """Returns the ledger of a court that was made with these coins, this bond and this patience."""
    roots = tuple([court.accepted(number) for number in range(court.count())])
    return (tuple(coins), bond, patience, court.time(), tuple(court.log()), roots, court.coins())


def true_run(digests, image, inputs, level):
    """Returns the pair of the root and the answer of the true run."""
    history = History(digests, first_words(image, inputs), level, None)
    _, _, registers, _, told = history.end()
    return (history.root(level, 0), (MARKS[registers[3]], told))


def ledger_faults(digests, ledger):
    """Returns the list of the faults of a ledger that its log shows."""
    _, _, _, _, log, roots, left = ledger
    docket, words = replayed(digests, ledger)
    faults = [("word", index) for index, row in enumerate(log) if row[3] != words[index]]
    for number in range(docket.count()):
        root = roots[number] if number < len(roots) else None
        if root != docket.question(number).accepted:
            faults.append(("accepted", number))
    if len(roots) != docket.count():
        faults.append(("questions",))
    if left != docket.coins():
        faults.append(("coins",))
    return faults


def truth_faults(digests, ledger):
    """Returns the list of the questions whose accepted answer is not the true one, with the true one."""
    docket, _ = replayed(digests, ledger)
    faults = []
    for number in range(docket.count()):
        question = docket.question(number)
        if question.accepted is None:
            continue
        _, answer = true_run(digests.without_book(), question.image, question.inputs, question.level)
        if question.answer() != answer:
            faults.append(("false", number, answer))
    return faults


def has_collision(bits, ledger):
    """Tells whether two different texts have one digest, of all that shows that the log and the true runs are right."""
    book = Book()
    digests = Digests(bits, book)
    docket, words = replayed(digests, ledger)
    for row, word in zip(ledger[4], words):
        if word == "done" and row[2][0] != "ask":
            reckon_letter(digests, docket, row[2])
    for number in range(docket.count()):
        question = docket.question(number)
        start_of(digests, question.image, question.inputs)
        true_run(digests, question.image, question.inputs, question.level)
    return book.has_collision()


def replayed(digests, ledger):
    """Returns a docket that took all letters of the log and made all decisions, and the list of the right words."""
    coins, bond, patience, time, log, _, _ = ledger
    # Without a book: what is reckoned for letters that are refused counts nowhere.
    docket = Docket(digests.without_book(), coins, bond, patience)
    words = []
    before = 0
    for now, player, letter, _ in log:
        docket.decide(before, now)
        before = now
        words.append(docket.take(player, letter, now))
    docket.decide(before, time)
    return (docket, words)


def reckon_letter(digests, docket, letter):
    """Reckons all digests that show that a letter about a question, which has its effect, is right."""
    if letter[0] == "claim":
        shows_claim(digests, docket.question(letter[1]).level, letter)
    elif letter[0] == "prove":
        shows_step(digests, letter)
    else:
        left, right, last = letter[7:10]
        shows_halves(digests, letter)
        halves_of(digests, edge_of(letter), left, right, last)
