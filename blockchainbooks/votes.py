"""Votes: which there can be, which are against one another, and which posts stand and last by them."""

from blockchainbooks.blocks import stands_on

POST_EVERY = 3
ENOUGH_VOTES = 3


class Vote:
    def __init__(self, validator, source, target):
        self.validator = validator
        self.source = source
        self.target = target


def is_post(blocks, number):
    return number < len(blocks) and blocks[number].height % POST_EVERY == 0


def can_be_voted(blocks, source, target):
    if not is_post(blocks, source) or not is_post(blocks, target):
        return False
    return blocks[source].height < blocks[target].height and stands_on(blocks, target, source)


def surrounds(blocks, outer, inner):
    if blocks[outer.source].height >= blocks[inner.source].height:
        return False
    return blocks[outer.target].height > blocks[inner.target].height


# Both must be votes of one validator.
def against_one_another(blocks, one, other):
    if one.target != other.target and blocks[one.target].height == blocks[other.target].height:
        return True
    return surrounds(blocks, one, other) or surrounds(blocks, other, one)


# By their numbers, the earlier one first; None if the validator has no such two.
def first_two_against(blocks, votes, validator):
    own = [number for number in range(len(votes)) if votes[number].validator == validator]
    for later in own:
        for earlier in own:
            if earlier < later and against_one_another(blocks, votes[earlier], votes[later]):
                return (earlier, later)
    return None


# The pairs of source and target for which enough validators voted; no validator gives a vote twice.
def strong_links(votes):
    counts = {}
    for vote in votes:
        link = (vote.source, vote.target)
        counts[link] = counts.get(link, 0) + 1
    return [link for link in counts if counts[link] >= ENOUGH_VOTES]


# In the order in which they come to stand: step by step from block 0, within a step by their numbers.
def standing_posts(votes):
    links = strong_links(votes)
    standing = [0]
    latest = [0]
    while len(latest) > 0:
        reached = [link[1] for link in links if link[0] in latest]
        latest = sorted(set([post for post in reached if post not in standing]))
        standing.extend(latest)
    return standing


def leads_to_next_post(blocks, links, post):
    steps = [blocks[link[1]].height - blocks[post].height for link in links if link[0] == post]
    return POST_EVERY in steps


# In the order in which they come to stand, too.
def lasting_posts(blocks, votes):
    links = strong_links(votes)
    return [post for post in standing_posts(votes) if post == 0 or leads_to_next_post(blocks, links, post)]
