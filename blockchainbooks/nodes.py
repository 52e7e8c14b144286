"""Nodes: what each knows, its root and its head."""

from blockchainbooks.blocks import highest, stands_on
from blockchainbooks.votes import standing_posts


class Node:
    def __init__(self):
        self.blocks = {0: True}
        self.votes = {}
        self.pool = []

    # What is done on a block that it knows isn't waited for any more.
    def learn_block(self, number, orders):
        self.blocks[number] = True
        self.pool = [order for order in self.pool if order not in orders]


def heard_votes(node, votes):
    return [votes[number] for number in node.votes]


def root_of(node, blocks, votes):
    standing = standing_posts(heard_votes(node, votes))
    return highest(blocks, [post for post in standing if post in node.blocks])


def head_on(root, node, blocks):
    return highest(blocks, [number for number in node.blocks if stands_on(blocks, number, root)])
