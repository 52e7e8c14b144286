"""The books: all orders, blocks, votes and nodes of one world."""

from blockchainbooks.blocks import block_on, first_block
from blockchainbooks.nodes import Node, head_on, heard_votes, root_of
from blockchainbooks.votes import lasting_posts, standing_posts


class Books:
    def __init__(self):
        self.orders = []
        self.blocks = [first_block()]
        self.votes = []
        # By validator, source and target.
        self.given = {}
        self.nodes = {1: Node(), 2: Node(), 3: Node()}

    def add_order(self, order):
        self.orders.append(order)
        return len(self.orders) - 1

    def add_block(self, below, maker, orders):
        self.blocks.append(block_on(self.blocks, below, maker, orders, self.orders))
        return len(self.blocks) - 1

    def add_vote(self, vote):
        self.votes.append(vote)
        self.given[(vote.validator, vote.source, vote.target)] = True
        return len(self.votes) - 1

    def has_block(self, number):
        return number < len(self.blocks)

    def has_vote(self, validator, source, target):
        return (validator, source, target) in self.given

    def node_standing(self, node):
        return standing_posts(heard_votes(self.nodes[node], self.votes))

    def node_lasting(self, node):
        return lasting_posts(self.blocks, heard_votes(self.nodes[node], self.votes))

    def node_root(self, node):
        return root_of(self.nodes[node], self.blocks, self.votes)

    def node_head(self, node):
        return head_on(self.node_root(node), self.nodes[node], self.blocks)
