"""Ablehands: works dealt among able hands, evenest."""
