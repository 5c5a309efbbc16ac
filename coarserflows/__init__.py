"""Coarser tables of flows, reckoned rung by rung; the calls are answered by coarserflows.ladder."""
