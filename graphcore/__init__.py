"""Small graphs, folded into themselves as far as they go."""
